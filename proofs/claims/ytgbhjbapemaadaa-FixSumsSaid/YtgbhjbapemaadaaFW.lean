/- umbralaw02.works: the chapter's example holds. -/
import Derived.Test.YtgbhjbapemaadaaFC
namespace Go.Proofs.Ytgbhjbapemaadaa
set_option linter.unusedVariables false
open Go.RowKit
attribute [local go_sem] setCell_twice setCell_pair

theorem fof (n m : Int) (n0 : -9223372036854775808 ≤ n) (n1 : n ≤ 9223372036854775807) (e : n * 4294967296 = m) (m0 : -9223372036854775808 ≤ m) (m1 : m ≤ 9223372036854775807) (w : World) :
    Calls Try.prog 10 #[.int .i64 n] w fun e w' => e = .returned (.int .i64 m) ∧ Below w.heap.size w w' := by
  have h := FOf_any n n0 n1 w
  rwa [e, sat_in m m0 m1] at h
theorem fdiv_13 (w : World) : Calls Try.prog 25 #[.int .i64 (-4294967296), .int .i64 12884901888] w fun e w' => e = .returned (.int .i64 (-1431655766)) ∧ Below w.heap.size w w' := by
  have h := FDiv_any (-4294967296) 12884901888 (-1431655766) 8589934592 (by omega) (by omega) (by omega) (by omega) (by omega) (by omega) (by omega) (by omega) w
  rwa [sat_in (-1431655766) (by omega) (by omega)] at h
theorem fsqrt_2 (w : World) : Calls Try.prog 27 #[.int .i64 8589934592] w fun e w' => e = .returned (.int .i64 6074000999) ∧ Below w.heap.size w w' :=
  FSqrt_any 8589934592 6074000999 (by omega) (by omega) (by omega) (by omega) (by omega) w

set_option maxHeartbeats 1000000 in
theorem fworks_any (w : World) :
    Calls Try.prog 16 #[] w fun e w' => e = .returned (.bool true) ∧ Below w.heap.size w w' := by
  have e1 := Lib.hid (show mulF 12884901888 2147483648 = 6442450944 from sat_in 6442450944 (by omega) (by omega))
  have e2 := Lib.hid (show sat (9223372036854775807 + 1) = 9223372036854775807 from sat_hi _ (by omega))
  have i1 : Hid (in64 12884901888) := Lib.hid (by unfold in64; omega)
  have i2 : Hid (in64 2147483648) := Lib.hid (by unfold in64; omega)
  have i3 : Hid (in64 9223372036854775807) := Lib.hid (by unfold in64; omega)
  have i4 : Hid (in64 1) := Lib.hid (by unfold in64; omega)
  go_enter Try.func16, Try.ntmps16
  go_wp2_with (fail); go_at_call 10; refine (fof 3 12884901888 (by omega) (by omega) (by omega) (by omega) (by omega) _).mono ?_; rintro e w1 ⟨rfl, hb⟩
  have hB : Below w.heap.size w _ := below_step (by repeat (first | exact Below.refl _ _ | assumption | refine below_drewN ?_ _ | refine Below.drew ?_ | refine Below.alloc ?_ (by first | omega | (simp; done) | (simp; omega)) _ | refine Below.setCell ?_ (by first | (simp; done) | (simp; omega)) _)) hb; have hS := hB.size
  go_wp2_with (fail); go_at_call 23; refine (FMul_two _ 12884901888 2147483648 6442450944 _ (by simp) i1.out i2.out (by simp [go_sem]) (by simp [go_sem]) e1.out).mono ?_; rintro e w2 ⟨rfl, hb⟩
  have hB : Below w.heap.size w _ := below_step (by repeat (first | exact Below.refl _ _ | assumption | refine below_drewN ?_ _ | refine Below.drew ?_ | refine Below.alloc ?_ (by first | omega | (simp; done) | (simp; omega)) _ | refine Below.setCell ?_ (by first | (simp; done) | (simp; omega)) _)) hb; have hS := hB.size
  go_wp2_with (fail); go_at_call 10; refine (fof (-1) (-4294967296) (by omega) (by omega) (by omega) (by omega) (by omega) _).mono ?_; rintro e w3 ⟨rfl, hb⟩
  have hB : Below w.heap.size w _ := below_step (by repeat (first | exact Below.refl _ _ | assumption | refine below_drewN ?_ _ | refine Below.drew ?_ | refine Below.alloc ?_ (by first | omega | (simp; done) | (simp; omega)) _ | refine Below.setCell ?_ (by first | (simp; done) | (simp; omega)) _)) hb; have hS := hB.size
  go_wp2_with (fail); go_at_call 10; refine (fof 3 12884901888 (by omega) (by omega) (by omega) (by omega) (by omega) _).mono ?_; rintro e w4 ⟨rfl, hb⟩
  have hB : Below w.heap.size w _ := below_step (by repeat (first | exact Below.refl _ _ | assumption | refine below_drewN ?_ _ | refine Below.drew ?_ | refine Below.alloc ?_ (by first | omega | (simp; done) | (simp; omega)) _ | refine Below.setCell ?_ (by first | (simp; done) | (simp; omega)) _)) hb; have hS := hB.size
  go_wp2_with (fail); go_at_call 25; refine (fdiv_13 _).mono ?_; rintro e w5 ⟨rfl, hb⟩
  have hB : Below w.heap.size w _ := below_step (by repeat (first | exact Below.refl _ _ | assumption | refine below_drewN ?_ _ | refine Below.drew ?_ | refine Below.alloc ?_ (by first | omega | (simp; done) | (simp; omega)) _ | refine Below.setCell ?_ (by first | (simp; done) | (simp; omega)) _)) hb; have hS := hB.size
  go_wp2_with (fail); go_at_call 18; refine (FAdd_two _ 9223372036854775807 1 9223372036854775807 _ i3.out i4.out (by simp [go_sem]) (by simp [go_sem]) e2.out).mono ?_; rintro e w6 ⟨rfl, rfl⟩
  go_wp2_with (fail); go_at_call 10; refine (fof 2 8589934592 (by omega) (by omega) (by omega) (by omega) (by omega) _).mono ?_; rintro e w7 ⟨rfl, hb⟩
  have hB : Below w.heap.size w _ := below_step (by repeat (first | exact Below.refl _ _ | assumption | refine below_drewN ?_ _ | refine Below.drew ?_ | refine Below.alloc ?_ (by first | omega | (simp; done) | (simp; omega)) _ | refine Below.setCell ?_ (by first | (simp; done) | (simp; omega)) _)) hb; have hS := hB.size
  go_wp2_with (fail); go_at_call 27; refine (fsqrt_2 _).mono ?_; rintro e w8 ⟨rfl, hb⟩
  have hB : Below w.heap.size w _ := below_step (by repeat (first | exact Below.refl _ _ | assumption | refine below_drewN ?_ _ | refine Below.drew ?_ | refine Below.alloc ?_ (by first | omega | (simp; done) | (simp; omega)) _ | refine Below.setCell ?_ (by first | (simp; done) | (simp; omega)) _)) hb; have hS := hB.size
  go_wp2
  go_ret
  exact ⟨rfl, hB⟩
end Go.Proofs.Ytgbhjbapemaadaa
