/- umbralaw02.FixWholes, FixBetween, FixSums, FixProducts: the walks. -/
import Derived.Test.YtgbhjbapemaadaaFW
import Derived.Test.YtgbhjbapemaadaaFX
namespace Go.Proofs.Ytgbhjbapemaadaa
set_option linter.unusedVariables false
open Go.RowKit
attribute [local go_sem] setCell_twice setCell_pair

theorem Wholes_core (n x S F R : Int) (w : World)
    (f1 : Hid (∀ w, Calls Try.prog 10 #[.int .i64 n] w fun e w' => e = .returned (.int .i64 S) ∧ Below w.heap.size w w'))
    (r1 : Hid (∀ w, Calls Try.prog 11 #[.int .i64 n] w fun e w' => e = .returned (.int .i64 S) ∧ w = w'))
    (f2 : Hid (∀ w, Calls Try.prog 12 #[.int .i64 x] w fun e w' => e = .returned (.int .i64 F) ∧ w = w'))
    (r2 : Hid (∀ w, Calls Try.prog 13 #[.int .i64 x] w fun e w' => e = .returned (.int .i64 F) ∧ w = w'))
    (f3 : Hid (∀ w, Calls Try.prog 14 #[.int .i64 x] w fun e w' => e = .returned (.int .i64 R) ∧ w = w'))
    (r3 : Hid (∀ w, Calls Try.prog 15 #[.int .i64 x] w fun e w' => e = .returned (.int .i64 R) ∧ w = w')) :
    Calls Try.prog 3 #[.int .i64 n, .int .i64 x] w fun e w' => e = .returned (.bool true) ∧ Below w.heap.size w w' := by
  go_enter Try.func3, Try.ntmps3
  go_wp2_with (fail); go_at_call 10; refine (f1.out _).mono ?_; rintro e w1 ⟨rfl, hb⟩
  have hB : Below w.heap.size w _ := below_step (by repeat (first | exact Below.refl _ _ | assumption | refine below_drewN ?_ _ | refine Below.drew ?_ | refine Below.alloc ?_ (by first | omega | (simp; done) | (simp; omega)) _ | refine Below.setCell ?_ (by first | (simp; done) | (simp; omega)) _)) hb; have hS := hB.size
  go_wp2_with (fail); go_at_call 11; refine (r1.out _).mono ?_; rintro e w2 ⟨rfl, rfl⟩
  go_wp2_with (fail); go_at_call 12; refine (f2.out _).mono ?_; rintro e w2 ⟨rfl, rfl⟩
  go_wp2_with (fail); go_at_call 13; refine (r2.out _).mono ?_; rintro e w2 ⟨rfl, rfl⟩
  go_wp2_with (fail); go_at_call 14; refine (f3.out _).mono ?_; rintro e w2 ⟨rfl, rfl⟩
  go_wp2_with (fail); go_at_call 15; refine (r3.out _).mono ?_; rintro e w2 ⟨rfl, rfl⟩
  go_wp2_with (fail); go_at_call 16; refine (fworks_any _).mono ?_; rintro e w3 ⟨rfl, hb⟩
  have hB : Below w.heap.size w _ := below_step (by repeat (first | exact Below.refl _ _ | assumption | refine below_drewN ?_ _ | refine Below.drew ?_ | refine Below.alloc ?_ (by first | omega | (simp; done) | (simp; omega)) _ | refine Below.setCell ?_ (by first | (simp; done) | (simp; omega)) _)) hb; have hS := hB.size
  go_wp2_with (fail)
  go_ret
  exact ⟨rfl, hB⟩

theorem Wholes_walk (n x : Int) (w : World) (hn : in64 n) (hx : in64 x) :
    Calls Try.prog 3 #[.int .i64 n, .int .i64 x] w fun e w' => e = .returned (.bool true) ∧ Below w.heap.size w w' :=
  Wholes_core n x _ _ _ w (fun w => FOf_any n hn.1 hn.2 w) (fun w => ROf_any n hn.1 hn.2 w) (fun w => FFloor_any x hx.1 hx.2 w) (fun w => RFloor_any x hx.1 hx.2 w) (fun w => FRound_any x hx.1 hx.2 w) (fun w => RRound_any x hx.1 hx.2 w)

theorem Between_core (a b t C L : Int) (w : World)
    (f1 : Hid (∀ w, Calls Try.prog 29 #[.int .i64 a, .int .i64 b, .int .i64 t] w fun e w' => e = .returned (.int .i64 C) ∧ w = w'))
    (r1 : Hid (∀ w, Calls Try.prog 30 #[.int .i64 a, .int .i64 b, .int .i64 t] w fun e w' => e = .returned (.int .i64 C) ∧ w = w'))
    (f2 : Hid (∀ w, Calls Try.prog 31 #[.int .i64 a, .int .i64 b, .int .i64 t] w fun e w' => e = .returned (.int .i64 L) ∧ Below w.heap.size w w'))
    (r2 : Hid (∀ w, Calls Try.prog 32 #[.int .i64 a, .int .i64 b, .int .i64 t] w fun e w' => e = .returned (.int .i64 L) ∧ w = w')) :
    Calls Try.prog 6 #[.int .i64 a, .int .i64 b, .int .i64 t] w fun e w' => e = .returned (.bool true) ∧ Below w.heap.size w w' := by
  go_enter Try.func6, Try.ntmps6
  go_wp2_with (fail); go_at_call 29; refine (f1.out _).mono ?_; rintro e w2 ⟨rfl, rfl⟩
  go_wp2_with (fail); go_at_call 30; refine (r1.out _).mono ?_; rintro e w2 ⟨rfl, rfl⟩
  go_wp2_with (fail); go_at_call 31; refine (f2.out _).mono ?_; rintro e w1 ⟨rfl, hb⟩
  have hB : Below w.heap.size w _ := below_step (by repeat (first | exact Below.refl _ _ | assumption | refine below_drewN ?_ _ | refine Below.drew ?_ | refine Below.alloc ?_ (by first | omega | (simp; done) | (simp; omega)) _ | refine Below.setCell ?_ (by first | (simp; done) | (simp; omega)) _)) hb; have hS := hB.size
  go_wp2_with (fail); go_at_call 32; refine (r2.out _).mono ?_; rintro e w2 ⟨rfl, rfl⟩
  go_wp2_with (fail); go_at_call 16; refine (fworks_any _).mono ?_; rintro e w3 ⟨rfl, hb⟩
  have hB : Below w.heap.size w _ := below_step (by repeat (first | exact Below.refl _ _ | assumption | refine below_drewN ?_ _ | refine Below.drew ?_ | refine Below.alloc ?_ (by first | omega | (simp; done) | (simp; omega)) _ | refine Below.setCell ?_ (by first | (simp; done) | (simp; omega)) _)) hb; have hS := hB.size
  go_wp2_with (fail)
  go_ret
  exact ⟨rfl, hB⟩

theorem Between_walk (a b t : Int) (w : World) (ha : in64 a) (hb : in64 b) (ht : in64 t) :
    Calls Try.prog 6 #[.int .i64 a, .int .i64 b, .int .i64 t] w fun e w' => e = .returned (.bool true) ∧ Below w.heap.size w w' :=
  Between_core a b t _ _ w (fun w => FClamp_any a b t w) (fun w => RClamp_any a b t w) (fun w => FLerp_any a b t ha hb ht w) (fun w => RLerp_any a b t ha hb ht w)

set_option maxHeartbeats 1000000 in
theorem Sums_few (blk off n cap : Nat) (a b R D N Z : Int) (w : World) (hc : n ≤ cap) (hm : cap ≤ 9223372036854775807) (h8 : (n : Int) ≤ 8)
    (fa : Hid (Calls Try.prog 18 #[.slice (some ⟨blk, off, none⟩) n cap] w fun e w' => e = .returned (.int .i64 R) ∧ w = w'))
    (ra : Hid (Calls Try.prog 19 #[.slice (some ⟨blk, off, none⟩) n cap] w fun e w' => e = .returned (.int .i64 R) ∧ w = w'))
    (f2 : Hid (∀ w, Calls Try.prog 20 #[.int .i64 a, .int .i64 b] w fun e w' => e = .returned (.int .i64 D) ∧ w = w'))
    (r2 : Hid (∀ w, Calls Try.prog 17 #[.int .i64 a, .int .i64 b] w fun e w' => e = .returned (.int .i64 D) ∧ w = w'))
    (f3 : Hid (∀ w, Calls Try.prog 21 #[.int .i64 a] w fun e w' => e = .returned (.int .i64 N) ∧ w = w'))
    (r3 : Hid (∀ w, Calls Try.prog 17 #[.int .i64 0, .int .i64 a] w fun e w' => e = .returned (.int .i64 N) ∧ w = w'))
    (f4 : Hid (∀ w, Calls Try.prog 22 #[.int .i64 a] w fun e w' => e = .returned (.int .i64 Z) ∧ w = w'))
    (hz : a < 0 ∧ Z = N ∨ ¬ a < 0 ∧ Z = a) :
    Calls Try.prog 4 #[.slice (some ⟨blk, off, none⟩) n cap, .int .i64 a, .int .i64 b] w fun e w' => e = .returned (.bool true) ∧ Below w.heap.size w w' := by
  rcases hz with ⟨hn, rfl⟩ | ⟨hn, rfl⟩
  · go_enter Try.func4, Try.ntmps4
    go_wp2_with (fail); go_at_call 17; refine (r3.out _).mono ?_; rintro e w1 ⟨rfl, rfl⟩
    go_wp2_with (fail); go_at_call 18; refine (fa.out).mono ?_; rintro e w1 ⟨rfl, rfl⟩
    go_wp2_with (fail); go_at_call 19; refine (ra.out).mono ?_; rintro e w1 ⟨rfl, rfl⟩
    go_wp2_with (fail); go_at_call 20; refine (f2.out _).mono ?_; rintro e w1 ⟨rfl, rfl⟩
    go_wp2_with (fail); go_at_call 17; refine (r2.out _).mono ?_; rintro e w1 ⟨rfl, rfl⟩
    go_wp2_with (fail); go_at_call 21; refine (f3.out _).mono ?_; rintro e w1 ⟨rfl, rfl⟩
    go_wp2_with (fail); go_at_call 17; refine (r3.out _).mono ?_; rintro e w1 ⟨rfl, rfl⟩
    go_wp2_with (fail); go_at_call 22; refine (f4.out _).mono ?_; rintro e w1 ⟨rfl, rfl⟩
    go_wp2_with (fail); go_at_call 16; refine (fworks_any _).mono ?_; rintro e w3 ⟨rfl, hb⟩
    have hB : Below w.heap.size w _ := below_step (by repeat (first | exact Below.refl _ _ | assumption | refine below_drewN ?_ _ | refine Below.drew ?_ | refine Below.alloc ?_ (by first | omega | (simp; done) | (simp; omega)) _ | refine Below.setCell ?_ (by first | (simp; done) | (simp; omega)) _)) hb; have hS := hB.size
    go_wp2_with (fail)
    go_ret
    exact ⟨rfl, hB⟩
  · go_enter Try.func4, Try.ntmps4
    go_wp2_with (fail); go_at_call 18; refine (fa.out).mono ?_; rintro e w1 ⟨rfl, rfl⟩
    go_wp2_with (fail); go_at_call 19; refine (ra.out).mono ?_; rintro e w1 ⟨rfl, rfl⟩
    go_wp2_with (fail); go_at_call 20; refine (f2.out _).mono ?_; rintro e w1 ⟨rfl, rfl⟩
    go_wp2_with (fail); go_at_call 17; refine (r2.out _).mono ?_; rintro e w1 ⟨rfl, rfl⟩
    go_wp2_with (fail); go_at_call 21; refine (f3.out _).mono ?_; rintro e w1 ⟨rfl, rfl⟩
    go_wp2_with (fail); go_at_call 17; refine (r3.out _).mono ?_; rintro e w1 ⟨rfl, rfl⟩
    go_wp2_with (fail); go_at_call 22; refine (f4.out _).mono ?_; rintro e w1 ⟨rfl, rfl⟩
    go_wp2_with (fail); go_at_call 16; refine (fworks_any _).mono ?_; rintro e w3 ⟨rfl, hb⟩
    have hB : Below w.heap.size w _ := below_step (by repeat (first | exact Below.refl _ _ | assumption | refine below_drewN ?_ _ | refine Below.drew ?_ | refine Below.alloc ?_ (by first | omega | (simp; done) | (simp; omega)) _ | refine Below.setCell ?_ (by first | (simp; done) | (simp; omega)) _)) hb; have hS := hB.size
    go_wp2_with (fail)
    go_ret
    exact ⟨rfl, hB⟩

set_option maxHeartbeats 1000000 in
theorem Sums_many (blk off n cap : Nat) (a b R D N Z : Int) (w : World) (hc : n ≤ cap) (hm : cap ≤ 9223372036854775807) (h8 : 8 < (n : Int))
    (fa : Hid (Calls Try.prog 18 #[.slice (some ⟨blk, off, none⟩) 8 cap] w fun e w' => e = .returned (.int .i64 R) ∧ w = w'))
    (ra : Hid (Calls Try.prog 19 #[.slice (some ⟨blk, off, none⟩) 8 cap] w fun e w' => e = .returned (.int .i64 R) ∧ w = w'))
    (f2 : Hid (∀ w, Calls Try.prog 20 #[.int .i64 a, .int .i64 b] w fun e w' => e = .returned (.int .i64 D) ∧ w = w'))
    (r2 : Hid (∀ w, Calls Try.prog 17 #[.int .i64 a, .int .i64 b] w fun e w' => e = .returned (.int .i64 D) ∧ w = w'))
    (f3 : Hid (∀ w, Calls Try.prog 21 #[.int .i64 a] w fun e w' => e = .returned (.int .i64 N) ∧ w = w'))
    (r3 : Hid (∀ w, Calls Try.prog 17 #[.int .i64 0, .int .i64 a] w fun e w' => e = .returned (.int .i64 N) ∧ w = w'))
    (f4 : Hid (∀ w, Calls Try.prog 22 #[.int .i64 a] w fun e w' => e = .returned (.int .i64 Z) ∧ w = w'))
    (hz : a < 0 ∧ Z = N ∨ ¬ a < 0 ∧ Z = a) :
    Calls Try.prog 4 #[.slice (some ⟨blk, off, none⟩) n cap, .int .i64 a, .int .i64 b] w fun e w' => e = .returned (.bool true) ∧ Below w.heap.size w w' := by
  rcases hz with ⟨hn, rfl⟩ | ⟨hn, rfl⟩
  · go_enter Try.func4, Try.ntmps4
    go_wp2_with (fail); go_at_call 17; refine (r3.out _).mono ?_; rintro e w1 ⟨rfl, rfl⟩
    go_wp2_with (fail); go_at_call 18; refine (fa.out).mono ?_; rintro e w1 ⟨rfl, rfl⟩
    go_wp2_with (fail); go_at_call 19; refine (ra.out).mono ?_; rintro e w1 ⟨rfl, rfl⟩
    go_wp2_with (fail); go_at_call 20; refine (f2.out _).mono ?_; rintro e w1 ⟨rfl, rfl⟩
    go_wp2_with (fail); go_at_call 17; refine (r2.out _).mono ?_; rintro e w1 ⟨rfl, rfl⟩
    go_wp2_with (fail); go_at_call 21; refine (f3.out _).mono ?_; rintro e w1 ⟨rfl, rfl⟩
    go_wp2_with (fail); go_at_call 17; refine (r3.out _).mono ?_; rintro e w1 ⟨rfl, rfl⟩
    go_wp2_with (fail); go_at_call 22; refine (f4.out _).mono ?_; rintro e w1 ⟨rfl, rfl⟩
    go_wp2_with (fail); go_at_call 16; refine (fworks_any _).mono ?_; rintro e w3 ⟨rfl, hb⟩
    have hB : Below w.heap.size w _ := below_step (by repeat (first | exact Below.refl _ _ | assumption | refine below_drewN ?_ _ | refine Below.drew ?_ | refine Below.alloc ?_ (by first | omega | (simp; done) | (simp; omega)) _ | refine Below.setCell ?_ (by first | (simp; done) | (simp; omega)) _)) hb; have hS := hB.size
    go_wp2_with (fail)
    go_ret
    exact ⟨rfl, hB⟩
  · go_enter Try.func4, Try.ntmps4
    go_wp2_with (fail); go_at_call 18; refine (fa.out).mono ?_; rintro e w1 ⟨rfl, rfl⟩
    go_wp2_with (fail); go_at_call 19; refine (ra.out).mono ?_; rintro e w1 ⟨rfl, rfl⟩
    go_wp2_with (fail); go_at_call 20; refine (f2.out _).mono ?_; rintro e w1 ⟨rfl, rfl⟩
    go_wp2_with (fail); go_at_call 17; refine (r2.out _).mono ?_; rintro e w1 ⟨rfl, rfl⟩
    go_wp2_with (fail); go_at_call 21; refine (f3.out _).mono ?_; rintro e w1 ⟨rfl, rfl⟩
    go_wp2_with (fail); go_at_call 17; refine (r3.out _).mono ?_; rintro e w1 ⟨rfl, rfl⟩
    go_wp2_with (fail); go_at_call 22; refine (f4.out _).mono ?_; rintro e w1 ⟨rfl, rfl⟩
    go_wp2_with (fail); go_at_call 16; refine (fworks_any _).mono ?_; rintro e w3 ⟨rfl, hb⟩
    have hB : Below w.heap.size w _ := below_step (by repeat (first | exact Below.refl _ _ | assumption | refine below_drewN ?_ _ | refine Below.drew ?_ | refine Below.alloc ?_ (by first | omega | (simp; done) | (simp; omega)) _ | refine Below.setCell ?_ (by first | (simp; done) | (simp; omega)) _)) hb; have hS := hB.size
    go_wp2_with (fail)
    go_ret
    exact ⟨rfl, hB⟩

set_option maxHeartbeats 1000000 in
theorem Sums_nil (p : Option Addr) (cap : Nat) (a b R D N Z : Int) (w : World) (hm : cap ≤ 9223372036854775807)
    (fa : Hid (Calls Try.prog 18 #[.slice p 0 cap] w fun e w' => e = .returned (.int .i64 R) ∧ w = w'))
    (ra : Hid (Calls Try.prog 19 #[.slice p 0 cap] w fun e w' => e = .returned (.int .i64 R) ∧ w = w'))
    (f2 : Hid (∀ w, Calls Try.prog 20 #[.int .i64 a, .int .i64 b] w fun e w' => e = .returned (.int .i64 D) ∧ w = w'))
    (r2 : Hid (∀ w, Calls Try.prog 17 #[.int .i64 a, .int .i64 b] w fun e w' => e = .returned (.int .i64 D) ∧ w = w'))
    (f3 : Hid (∀ w, Calls Try.prog 21 #[.int .i64 a] w fun e w' => e = .returned (.int .i64 N) ∧ w = w'))
    (r3 : Hid (∀ w, Calls Try.prog 17 #[.int .i64 0, .int .i64 a] w fun e w' => e = .returned (.int .i64 N) ∧ w = w'))
    (f4 : Hid (∀ w, Calls Try.prog 22 #[.int .i64 a] w fun e w' => e = .returned (.int .i64 Z) ∧ w = w'))
    (hz : a < 0 ∧ Z = N ∨ ¬ a < 0 ∧ Z = a) :
    Calls Try.prog 4 #[.slice p 0 cap, .int .i64 a, .int .i64 b] w fun e w' => e = .returned (.bool true) ∧ Below w.heap.size w w' := by
  rcases hz with ⟨hn, rfl⟩ | ⟨hn, rfl⟩
  · go_enter Try.func4, Try.ntmps4
    go_wp2_with (fail); go_at_call 17; refine (r3.out _).mono ?_; rintro e w1 ⟨rfl, rfl⟩
    go_wp2_with (fail); go_at_call 18; refine (fa.out).mono ?_; rintro e w1 ⟨rfl, rfl⟩
    go_wp2_with (fail); go_at_call 19; refine (ra.out).mono ?_; rintro e w1 ⟨rfl, rfl⟩
    go_wp2_with (fail); go_at_call 20; refine (f2.out _).mono ?_; rintro e w1 ⟨rfl, rfl⟩
    go_wp2_with (fail); go_at_call 17; refine (r2.out _).mono ?_; rintro e w1 ⟨rfl, rfl⟩
    go_wp2_with (fail); go_at_call 21; refine (f3.out _).mono ?_; rintro e w1 ⟨rfl, rfl⟩
    go_wp2_with (fail); go_at_call 17; refine (r3.out _).mono ?_; rintro e w1 ⟨rfl, rfl⟩
    go_wp2_with (fail); go_at_call 22; refine (f4.out _).mono ?_; rintro e w1 ⟨rfl, rfl⟩
    go_wp2_with (fail); go_at_call 16; refine (fworks_any _).mono ?_; rintro e w3 ⟨rfl, hb⟩
    have hB : Below w.heap.size w _ := below_step (by repeat (first | exact Below.refl _ _ | assumption | refine below_drewN ?_ _ | refine Below.drew ?_ | refine Below.alloc ?_ (by first | omega | (simp; done) | (simp; omega)) _ | refine Below.setCell ?_ (by first | (simp; done) | (simp; omega)) _)) hb; have hS := hB.size
    go_wp2_with (fail)
    go_ret
    exact ⟨rfl, hB⟩
  · go_enter Try.func4, Try.ntmps4
    go_wp2_with (fail); go_at_call 18; refine (fa.out).mono ?_; rintro e w1 ⟨rfl, rfl⟩
    go_wp2_with (fail); go_at_call 19; refine (ra.out).mono ?_; rintro e w1 ⟨rfl, rfl⟩
    go_wp2_with (fail); go_at_call 20; refine (f2.out _).mono ?_; rintro e w1 ⟨rfl, rfl⟩
    go_wp2_with (fail); go_at_call 17; refine (r2.out _).mono ?_; rintro e w1 ⟨rfl, rfl⟩
    go_wp2_with (fail); go_at_call 21; refine (f3.out _).mono ?_; rintro e w1 ⟨rfl, rfl⟩
    go_wp2_with (fail); go_at_call 17; refine (r3.out _).mono ?_; rintro e w1 ⟨rfl, rfl⟩
    go_wp2_with (fail); go_at_call 22; refine (f4.out _).mono ?_; rintro e w1 ⟨rfl, rfl⟩
    go_wp2_with (fail); go_at_call 16; refine (fworks_any _).mono ?_; rintro e w3 ⟨rfl, hb⟩
    have hB : Below w.heap.size w _ := below_step (by repeat (first | exact Below.refl _ _ | assumption | refine below_drewN ?_ _ | refine Below.drew ?_ | refine Below.alloc ?_ (by first | omega | (simp; done) | (simp; omega)) _ | refine Below.setCell ?_ (by first | (simp; done) | (simp; omega)) _)) hb; have hS := hB.size
    go_wp2_with (fail)
    go_ret
    exact ⟨rfl, hB⟩


set_option maxHeartbeats 1000000 in
theorem Prods_few (blk off n cap : Nat) (a b R D S : Int) (w : World) (hc : n ≤ cap) (hm : cap ≤ 9223372036854775807) (h8 : (n : Int) ≤ 6)
    (fa : Hid (Calls Try.prog 23 #[.slice (some ⟨blk, off, none⟩) n cap] w fun e w' => e = .returned (.int .i64 R) ∧ Below w.heap.size w w'))
    (ra : Hid (∀ w', Below w.heap.size w w' → Calls Try.prog 24 #[.slice (some ⟨blk, off, none⟩) n cap] w' fun e w'' => e = .returned (.int .i64 R) ∧ w' = w''))
    (f2 : Hid (∀ w, Calls Try.prog 25 #[.int .i64 a, .int .i64 b] w fun e w' => e = .returned (.int .i64 D) ∧ Below w.heap.size w w'))
    (r2 : Hid (∀ w, Calls Try.prog 26 #[.int .i64 a, .int .i64 b] w fun e w' => e = .returned (.int .i64 D) ∧ Below w.heap.size w w'))
    (f3 : Hid (∀ w, Calls Try.prog 27 #[.int .i64 a] w fun e w' => e = .returned (.int .i64 S) ∧ Below w.heap.size w w'))
    (r3 : Hid (∀ w, Calls Try.prog 28 #[.int .i64 a] w fun e w' => e = .returned (.int .i64 S) ∧ w = w')) :
    Calls Try.prog 5 #[.slice (some ⟨blk, off, none⟩) n cap, .int .i64 a, .int .i64 b] w fun e w' => e = .returned (.bool true) ∧ Below w.heap.size w w' := by
  go_enter Try.func5, Try.ntmps5
  go_wp2_with (fail); go_at_call 23; refine (fa.out).mono ?_; rintro e w1 ⟨rfl, hb⟩
  have hB : Below w.heap.size w _ := below_step (by repeat (first | exact Below.refl _ _ | assumption | refine below_drewN ?_ _ | refine Below.drew ?_ | refine Below.alloc ?_ (by first | omega | (simp; done) | (simp; omega)) _ | refine Below.setCell ?_ (by first | (simp; done) | (simp; omega)) _)) hb; have hS := hB.size
  go_wp2_with (fail); go_at_call 24; refine (ra.out _ hB).mono ?_; rintro e w2 ⟨rfl, rfl⟩
  go_wp2_with (fail); go_at_call 25; refine (f2.out _).mono ?_; rintro e w2 ⟨rfl, hb⟩
  have hB : Below w.heap.size w _ := below_step (by repeat (first | exact Below.refl _ _ | assumption | refine below_drewN ?_ _ | refine Below.drew ?_ | refine Below.alloc ?_ (by first | omega | (simp; done) | (simp; omega)) _ | refine Below.setCell ?_ (by first | (simp; done) | (simp; omega)) _)) hb; have hS := hB.size
  go_wp2_with (fail); go_at_call 26; refine (r2.out _).mono ?_; rintro e w3 ⟨rfl, hb⟩
  have hB : Below w.heap.size w _ := below_step (by repeat (first | exact Below.refl _ _ | assumption | refine below_drewN ?_ _ | refine Below.drew ?_ | refine Below.alloc ?_ (by first | omega | (simp; done) | (simp; omega)) _ | refine Below.setCell ?_ (by first | (simp; done) | (simp; omega)) _)) hb; have hS := hB.size
  go_wp2_with (fail); go_at_call 27; refine (f3.out _).mono ?_; rintro e w4 ⟨rfl, hb⟩
  have hB : Below w.heap.size w _ := below_step (by repeat (first | exact Below.refl _ _ | assumption | refine below_drewN ?_ _ | refine Below.drew ?_ | refine Below.alloc ?_ (by first | omega | (simp; done) | (simp; omega)) _ | refine Below.setCell ?_ (by first | (simp; done) | (simp; omega)) _)) hb; have hS := hB.size
  go_wp2_with (fail); go_at_call 28; refine (r3.out _).mono ?_; rintro e w5 ⟨rfl, rfl⟩
  go_wp2_with (fail); go_at_call 16; refine (fworks_any _).mono ?_; rintro e w6 ⟨rfl, hb⟩
  have hB : Below w.heap.size w _ := below_step (by repeat (first | exact Below.refl _ _ | assumption | refine below_drewN ?_ _ | refine Below.drew ?_ | refine Below.alloc ?_ (by first | omega | (simp; done) | (simp; omega)) _ | refine Below.setCell ?_ (by first | (simp; done) | (simp; omega)) _)) hb; have hS := hB.size
  go_wp2_with (fail)
  go_ret
  exact ⟨rfl, hB⟩

set_option maxHeartbeats 1000000 in
theorem Prods_many (blk off n cap : Nat) (a b R D S : Int) (w : World) (hc : n ≤ cap) (hm : cap ≤ 9223372036854775807) (h8 : 6 < (n : Int))
    (fa : Hid (Calls Try.prog 23 #[.slice (some ⟨blk, off, none⟩) 6 cap] w fun e w' => e = .returned (.int .i64 R) ∧ Below w.heap.size w w'))
    (ra : Hid (∀ w', Below w.heap.size w w' → Calls Try.prog 24 #[.slice (some ⟨blk, off, none⟩) 6 cap] w' fun e w'' => e = .returned (.int .i64 R) ∧ w' = w''))
    (f2 : Hid (∀ w, Calls Try.prog 25 #[.int .i64 a, .int .i64 b] w fun e w' => e = .returned (.int .i64 D) ∧ Below w.heap.size w w'))
    (r2 : Hid (∀ w, Calls Try.prog 26 #[.int .i64 a, .int .i64 b] w fun e w' => e = .returned (.int .i64 D) ∧ Below w.heap.size w w'))
    (f3 : Hid (∀ w, Calls Try.prog 27 #[.int .i64 a] w fun e w' => e = .returned (.int .i64 S) ∧ Below w.heap.size w w'))
    (r3 : Hid (∀ w, Calls Try.prog 28 #[.int .i64 a] w fun e w' => e = .returned (.int .i64 S) ∧ w = w')) :
    Calls Try.prog 5 #[.slice (some ⟨blk, off, none⟩) n cap, .int .i64 a, .int .i64 b] w fun e w' => e = .returned (.bool true) ∧ Below w.heap.size w w' := by
  go_enter Try.func5, Try.ntmps5
  go_wp2_with (fail); go_at_call 23; refine (fa.out).mono ?_; rintro e w1 ⟨rfl, hb⟩
  have hB : Below w.heap.size w _ := below_step (by repeat (first | exact Below.refl _ _ | assumption | refine below_drewN ?_ _ | refine Below.drew ?_ | refine Below.alloc ?_ (by first | omega | (simp; done) | (simp; omega)) _ | refine Below.setCell ?_ (by first | (simp; done) | (simp; omega)) _)) hb; have hS := hB.size
  go_wp2_with (fail); go_at_call 24; refine (ra.out _ hB).mono ?_; rintro e w2 ⟨rfl, rfl⟩
  go_wp2_with (fail); go_at_call 25; refine (f2.out _).mono ?_; rintro e w2 ⟨rfl, hb⟩
  have hB : Below w.heap.size w _ := below_step (by repeat (first | exact Below.refl _ _ | assumption | refine below_drewN ?_ _ | refine Below.drew ?_ | refine Below.alloc ?_ (by first | omega | (simp; done) | (simp; omega)) _ | refine Below.setCell ?_ (by first | (simp; done) | (simp; omega)) _)) hb; have hS := hB.size
  go_wp2_with (fail); go_at_call 26; refine (r2.out _).mono ?_; rintro e w3 ⟨rfl, hb⟩
  have hB : Below w.heap.size w _ := below_step (by repeat (first | exact Below.refl _ _ | assumption | refine below_drewN ?_ _ | refine Below.drew ?_ | refine Below.alloc ?_ (by first | omega | (simp; done) | (simp; omega)) _ | refine Below.setCell ?_ (by first | (simp; done) | (simp; omega)) _)) hb; have hS := hB.size
  go_wp2_with (fail); go_at_call 27; refine (f3.out _).mono ?_; rintro e w4 ⟨rfl, hb⟩
  have hB : Below w.heap.size w _ := below_step (by repeat (first | exact Below.refl _ _ | assumption | refine below_drewN ?_ _ | refine Below.drew ?_ | refine Below.alloc ?_ (by first | omega | (simp; done) | (simp; omega)) _ | refine Below.setCell ?_ (by first | (simp; done) | (simp; omega)) _)) hb; have hS := hB.size
  go_wp2_with (fail); go_at_call 28; refine (r3.out _).mono ?_; rintro e w5 ⟨rfl, rfl⟩
  go_wp2_with (fail); go_at_call 16; refine (fworks_any _).mono ?_; rintro e w6 ⟨rfl, hb⟩
  have hB : Below w.heap.size w _ := below_step (by repeat (first | exact Below.refl _ _ | assumption | refine below_drewN ?_ _ | refine Below.drew ?_ | refine Below.alloc ?_ (by first | omega | (simp; done) | (simp; omega)) _ | refine Below.setCell ?_ (by first | (simp; done) | (simp; omega)) _)) hb; have hS := hB.size
  go_wp2_with (fail)
  go_ret
  exact ⟨rfl, hB⟩

set_option maxHeartbeats 1000000 in
theorem Prods_nil (p : Option Addr) (cap : Nat) (a b R D S : Int) (w : World) (hm : cap ≤ 9223372036854775807)
    (fa : Hid (Calls Try.prog 23 #[.slice p 0 cap] w fun e w' => e = .returned (.int .i64 R) ∧ Below w.heap.size w w'))
    (ra : Hid (∀ w', Below w.heap.size w w' → Calls Try.prog 24 #[.slice p 0 cap] w' fun e w'' => e = .returned (.int .i64 R) ∧ w' = w''))
    (f2 : Hid (∀ w, Calls Try.prog 25 #[.int .i64 a, .int .i64 b] w fun e w' => e = .returned (.int .i64 D) ∧ Below w.heap.size w w'))
    (r2 : Hid (∀ w, Calls Try.prog 26 #[.int .i64 a, .int .i64 b] w fun e w' => e = .returned (.int .i64 D) ∧ Below w.heap.size w w'))
    (f3 : Hid (∀ w, Calls Try.prog 27 #[.int .i64 a] w fun e w' => e = .returned (.int .i64 S) ∧ Below w.heap.size w w'))
    (r3 : Hid (∀ w, Calls Try.prog 28 #[.int .i64 a] w fun e w' => e = .returned (.int .i64 S) ∧ w = w')) :
    Calls Try.prog 5 #[.slice p 0 cap, .int .i64 a, .int .i64 b] w fun e w' => e = .returned (.bool true) ∧ Below w.heap.size w w' := by
  go_enter Try.func5, Try.ntmps5
  go_wp2_with (fail); go_at_call 23; refine (fa.out).mono ?_; rintro e w1 ⟨rfl, hb⟩
  have hB : Below w.heap.size w _ := below_step (by repeat (first | exact Below.refl _ _ | assumption | refine below_drewN ?_ _ | refine Below.drew ?_ | refine Below.alloc ?_ (by first | omega | (simp; done) | (simp; omega)) _ | refine Below.setCell ?_ (by first | (simp; done) | (simp; omega)) _)) hb; have hS := hB.size
  go_wp2_with (fail); go_at_call 24; refine (ra.out _ hB).mono ?_; rintro e w2 ⟨rfl, rfl⟩
  go_wp2_with (fail); go_at_call 25; refine (f2.out _).mono ?_; rintro e w2 ⟨rfl, hb⟩
  have hB : Below w.heap.size w _ := below_step (by repeat (first | exact Below.refl _ _ | assumption | refine below_drewN ?_ _ | refine Below.drew ?_ | refine Below.alloc ?_ (by first | omega | (simp; done) | (simp; omega)) _ | refine Below.setCell ?_ (by first | (simp; done) | (simp; omega)) _)) hb; have hS := hB.size
  go_wp2_with (fail); go_at_call 26; refine (r2.out _).mono ?_; rintro e w3 ⟨rfl, hb⟩
  have hB : Below w.heap.size w _ := below_step (by repeat (first | exact Below.refl _ _ | assumption | refine below_drewN ?_ _ | refine Below.drew ?_ | refine Below.alloc ?_ (by first | omega | (simp; done) | (simp; omega)) _ | refine Below.setCell ?_ (by first | (simp; done) | (simp; omega)) _)) hb; have hS := hB.size
  go_wp2_with (fail); go_at_call 27; refine (f3.out _).mono ?_; rintro e w4 ⟨rfl, hb⟩
  have hB : Below w.heap.size w _ := below_step (by repeat (first | exact Below.refl _ _ | assumption | refine below_drewN ?_ _ | refine Below.drew ?_ | refine Below.alloc ?_ (by first | omega | (simp; done) | (simp; omega)) _ | refine Below.setCell ?_ (by first | (simp; done) | (simp; omega)) _)) hb; have hS := hB.size
  go_wp2_with (fail); go_at_call 28; refine (r3.out _).mono ?_; rintro e w5 ⟨rfl, rfl⟩
  go_wp2_with (fail); go_at_call 16; refine (fworks_any _).mono ?_; rintro e w6 ⟨rfl, hb⟩
  have hB : Below w.heap.size w _ := below_step (by repeat (first | exact Below.refl _ _ | assumption | refine below_drewN ?_ _ | refine Below.drew ?_ | refine Below.alloc ?_ (by first | omega | (simp; done) | (simp; omega)) _ | refine Below.setCell ?_ (by first | (simp; done) | (simp; omega)) _)) hb; have hS := hB.size
  go_wp2_with (fail)
  go_ret
  exact ⟨rfl, hB⟩

theorem FixSl.of {w : World} {blk off cap : Nat} {zs : List Int} (n : Nat) (hz : zs.length = cap) (hn : n ≤ cap) (bd : ∀ z ∈ zs, -9223372036854775808 ≤ z ∧ z ≤ 9223372036854775807)
    (hc : ∀ k, k < zs.length → w.cell? ⟨blk, off + k, none⟩ = some (.int .i64 (zs.getD k 0))) : FixSl w blk off n (zs.take n) := by
  refine FixSl.take (n := cap) ⟨hz, fun k hk => ?_, fun k hk => hc k (by omega)⟩ n hn
  have h : k < zs.length := by omega
  rw [show zs.getD k 0 = zs[k] by simp [h]]
  exact bd _ (List.getElem_mem h)

theorem sums_rest (a : Int) (ha : in64 a) : a < 0 ∧ (if a < 0 then sat (-a) else a) = sat (-a) ∨ ¬ a < 0 ∧ (if a < 0 then sat (-a) else a) = a := by
  by_cases h : a < 0
  · exact .inl ⟨h, by rw [if_pos h]⟩
  · exact .inr ⟨h, by rw [if_neg h]⟩

theorem rsub0 (a : Int) (ha : in64 a) (w : World) : Calls Try.prog 17 #[.int .i64 0, .int .i64 a] w fun e w' => e = .returned (.int .i64 (sat (-a))) ∧ w = w' := by
  have h := RSub_any 0 a (by omega) (by omega) ha.1 ha.2 w
  rwa [Int.zero_sub] at h

/-- FixSums over a slice that reads as whole numbers -/
theorem Sums_walk (blk off n cap : Nat) (zs : List Int) (a b : Int) (w : World) (hc : n ≤ cap) (hm : cap ≤ 9223372036854775807) (hb : in64 b) (ha : in64 a) (sl : FixSl w blk off n zs) :
    Calls Try.prog 4 #[.slice (some ⟨blk, off, none⟩) n cap, .int .i64 a, .int .i64 b] w fun e w' => e = .returned (.bool true) ∧ Below w.heap.size w w' := by
  have f2 := fun w => FSub_any a b ha.1 ha.2 hb.1 hb.2 w
  have r2 := fun w => RSub_any a b ha.1 ha.2 hb.1 hb.2 w
  have f3 := fun w => FNeg_any a ha.1 ha.2 w
  have f4 := fun w => FAbs_any a ha.1 ha.2 w
  by_cases h8 : n ≤ 8
  · exact Sums_few blk off n cap a b _ _ _ _ w hc hm (by omega) (FAdd_walk blk off n cap zs _ (by omega) w sl rfl) (RAdd_walk blk off n cap zs _ (by omega) w sl rfl) f2 r2 f3 (fun w => rsub0 a ha w) f4 (sums_rest a ha)
  · have s8 := sl.take 8 (by omega)
    exact Sums_many blk off n cap a b _ _ _ _ w hc hm (by omega) (FAdd_walk blk off 8 cap _ _ (by omega) w s8 rfl) (RAdd_walk blk off 8 cap _ _ (by omega) w s8 rfl) f2 r2 f3 (fun w => rsub0 a ha w) f4 (sums_rest a ha)

theorem Sums_none (p : Option Addr) (cap : Nat) (hm : cap ≤ 9223372036854775807) (a b : Int) (w : World) (hb : in64 b) (ha : in64 a) :
    Calls Try.prog 4 #[.slice p 0 cap, .int .i64 a, .int .i64 b] w fun e w' => e = .returned (.bool true) ∧ Below w.heap.size w w' :=
  Sums_nil p cap a b _ _ _ _ w hm (FAdd_nil p cap w) (RAdd_nil p cap w) (fun w => FSub_any a b ha.1 ha.2 hb.1 hb.2 w) (fun w => RSub_any a b ha.1 ha.2 hb.1 hb.2 w) (fun w => FNeg_any a ha.1 ha.2 w) (fun w => rsub0 a ha w) (fun w => FAbs_any a ha.1 ha.2 w) (sums_rest a ha)

/-- quotients and roots: the same number both ways -/
theorem quo_both (a b : Int) (ha : in64 a) (hb : in64 b) : ∃ D : Int, (∀ w, Calls Try.prog 25 #[.int .i64 a, .int .i64 b] w fun e w' => e = .returned (.int .i64 D) ∧ Below w.heap.size w w')
    ∧ (∀ w, Calls Try.prog 26 #[.int .i64 a, .int .i64 b] w fun e w' => e = .returned (.int .i64 D) ∧ Below w.heap.size w w') := by
  by_cases h : b = 0
  · subst h
    exact ⟨_, fun w => FDiv_zero a w, fun w => RDiv_by0 a ha.1 ha.2 w⟩
  · obtain ⟨q, r, e, hp, hm⟩ := exists_quo (a * 4294967296) b h
    exact ⟨_, fun w => FDiv_any a b q r ha.1 ha.2 hb.1 hb.2 h e hp hm w, fun w => RDiv_any a b q r ha.1 ha.2 hb.1 hb.2 h e hp hm w⟩

theorem root_both (a : Int) (ha : in64 a) : ∃ S : Int, (∀ w, Calls Try.prog 27 #[.int .i64 a] w fun e w' => e = .returned (.int .i64 S) ∧ Below w.heap.size w w')
    ∧ (∀ w, Calls Try.prog 28 #[.int .i64 a] w fun e w' => e = .returned (.int .i64 S) ∧ w = w') := by
  by_cases h : a < 0
  · exact ⟨_, fun w => FSqrt_neg a ha.1 h w, fun w => RSqrt_neg a h w⟩
  · obtain ⟨s, s1, s2⟩ := exists_root (a * 4294967296) (by omega)
    have sb := root_bd a s ha.2 s1
    exact ⟨_, fun w => FSqrt_any a s (by omega) ha.2 s1 s2 (by omega) w, fun w => RSqrt_any a s (by omega) ha.2 s1 s2 (by omega) w⟩

theorem Prods_walk (blk off n cap : Nat) (zs : List Int) (a b : Int) (w : World) (hbk : blk < w.heap.size) (hc : n ≤ cap) (hm : cap ≤ 9223372036854775807) (hb : in64 b) (ha : in64 a) (sl : FixSl w blk off n zs) :
    Calls Try.prog 5 #[.slice (some ⟨blk, off, none⟩) n cap, .int .i64 a, .int .i64 b] w fun e w' => e = .returned (.bool true) ∧ Below w.heap.size w w' := by
  obtain ⟨D, f2, r2⟩ := quo_both a b ha hb
  obtain ⟨S, f3, r3⟩ := root_both a ha
  by_cases h8 : n ≤ 6
  · exact Prods_few blk off n cap a b _ D S w hc hm (by omega) (FMul_walk blk off n cap zs _ (by omega) w hbk sl rfl) (fun w' hB => RMul_walk blk off n cap zs _ (by omega) w' (sl.below hbk hB) rfl) f2 r2 f3 r3
  · have s8 := sl.take 6 (by omega)
    exact Prods_many blk off n cap a b _ D S w hc hm (by omega) (FMul_walk blk off 6 cap _ _ (by omega) w hbk s8 rfl) (fun w' hB => RMul_walk blk off 6 cap _ _ (by omega) w' (s8.below hbk hB) rfl) f2 r2 f3 r3

theorem Prods_none (p : Option Addr) (cap : Nat) (hm : cap ≤ 9223372036854775807) (a b : Int) (w : World) (hb : in64 b) (ha : in64 a) :
    Calls Try.prog 5 #[.slice p 0 cap, .int .i64 a, .int .i64 b] w fun e w' => e = .returned (.bool true) ∧ Below w.heap.size w w' := by
  obtain ⟨D, f2, r2⟩ := quo_both a b ha hb
  obtain ⟨S, f3, r3⟩ := root_both a ha
  exact Prods_nil p cap a b _ D S w hm ((FMul_nil p cap w).mono fun e w' ⟨he, hw⟩ => ⟨he, hw ▸ Below.refl _ _⟩) (fun w' _ => RMul_nil p cap w') f2 r2 f3 r3
end Go.Proofs.Ytgbhjbapemaadaa
