/- Package vec: what its function values give; the document's answers (umbraref03), part by part. -/
import Derived.Test.YtalclbngpimajaaVB
import Derived.Test.YtalclbngpimajaaFX
import Derived.StillTailTactics
namespace Go.Proofs.Ytalclbngpimajaa
set_option linter.unusedVariables false
set_option maxRecDepth 2000
open Go.RowKit
attribute [local go_sem] setCell_twice setCell_pair

theorem cAdd_any (x y : Int) (hx : in64 x) (hy : in64 y) (w : World) :
    Calls Try.prog 65 #[.int .i64 x, .int .i64 y] w fun e w' => e = .returned (.int .i64 (sat (x + y))) ∧ Below w.heap.size w w' := by
  generalize hr : sat (x + y) = r
  have er := Lib.hid hr
  clear hr
  have HX := Lib.hid hx; have HY := Lib.hid hy
  clear hx hy
  go_enter Try.func65, Try.ntmps65
  go_wp2_with (fail); go_at_call 66; refine (FAdd_two _ x y r _ HX.out HY.out (by simp [go_sem]) (by simp [go_sem]) er.out).mono ?_; rintro e w1 ⟨rfl, rfl⟩
  go_wp2
  go_ret
  exact ⟨rfl, (by repeat (first | exact Below.refl _ _ | assumption | refine below_drewN ?_ _ | refine Below.drew ?_ | refine Below.alloc ?_ (by first | omega | (simp; done) | (simp; omega)) _ | refine Below.setCell ?_ (by first | (simp; done) | (simp; omega)) _))⟩

theorem cTimes_any (x y : Int) (hx : in64 x) (hy : in64 y) (w : World) :
    Calls Try.prog 68 #[.int .i64 x, .int .i64 y] w fun e w' => e = .returned (.int .i64 (mulF x y)) ∧ Below w.heap.size w w' := by
  generalize hr : mulF x y = r
  have er := Lib.hid hr
  clear hr
  have HX := Lib.hid hx; have HY := Lib.hid hy
  clear hx hy
  go_enter Try.func68, Try.ntmps68
  go_wp2_with (fail); go_at_call 69; refine (FMul_two _ x y r _ (by simp) HX.out HY.out (by simp [go_sem]) (by simp [go_sem]) er.out).mono ?_; rintro e w1 ⟨rfl, hb⟩
  have hB : Below w.heap.size w w1 := below_step (by repeat (first | exact Below.refl _ _ | assumption | refine below_drewN ?_ _ | refine Below.drew ?_ | refine Below.alloc ?_ (by first | omega | (simp; done) | (simp; omega)) _ | refine Below.setCell ?_ (by first | (simp; done) | (simp; omega)) _)) hb
  go_wp2
  go_ret
  exact ⟨rfl, hB⟩

theorem cScale_any (x k : Int) (b : Nat) (hx : in64 x) (hk : in64 k) (w : World) (hb : b < w.heap.size) (hc : w.cell? ⟨b, 0, none⟩ = some (.int .i64 k)) :
    Calls Try.prog 74 #[.int .i64 x, .pointer (some ⟨b, 0, none⟩)] w fun e w' => e = .returned (.int .i64 (mulF x k)) ∧ Below w.heap.size w w' := by
  generalize hr : mulF x k = r
  have er := Lib.hid hr
  clear hr
  have HX := Lib.hid hx; have HY := Lib.hid hk
  clear hx hk
  go_enter Try.func74, Try.ntmps74
  go_wp2_with (fail); go_at_call 69; refine (FMul_two _ x k r _ (by simp) HX.out HY.out (by simp [go_sem]) (by simp [go_sem]) er.out).mono ?_; rintro e w1 ⟨rfl, hb⟩
  have hB : Below w.heap.size w w1 := below_step (by repeat (first | exact Below.refl _ _ | assumption | refine below_drewN ?_ _ | refine Below.drew ?_ | refine Below.alloc ?_ (by first | omega | (simp; done) | (simp; omega)) _ | refine Below.setCell ?_ (by first | (simp; done) | (simp; omega)) _)) hb
  go_wp2
  go_ret
  exact ⟨rfl, hB⟩

theorem cLerp_any (x y t : Int) (b : Nat) (hx : in64 x) (hy : in64 y) (ht : in64 t) (w : World) (hb : b < w.heap.size) (hc : w.cell? ⟨b, 0, none⟩ = some (.int .i64 t)) :
    Calls Try.prog 76 #[.int .i64 x, .int .i64 y, .pointer (some ⟨b, 0, none⟩)] w fun e w' => e = .returned (.int .i64 (lerpF x y t)) ∧ Below w.heap.size w w' := by
  have H := Lib.hid (fun w => FLerp_any x y t hx hy ht w)
  clear hx hy ht
  go_enter Try.func76, Try.ntmps76
  go_wp2_with (fail); go_at_call 77; refine (H.out _).mono ?_; rintro e w1 ⟨rfl, hb⟩
  go_wp2
  go_ret
  exact ⟨rfl, hb⟩

theorem cUnit_any (x n q : Int) (b : Nat) (w : World) (hb : b < w.heap.size) (hc : w.cell? ⟨b, 0, none⟩ = some (.int .i64 n))
    (H : Hid (∀ w, Calls Try.prog 90 #[.int .i64 x, .int .i64 n] w fun e w' => e = .returned (.int .i64 q) ∧ Below w.heap.size w w')) :
    Calls Try.prog 89 #[.int .i64 x, .pointer (some ⟨b, 0, none⟩)] w fun e w' => e = .returned (.int .i64 q) ∧ Below w.heap.size w w' := by
  go_enter Try.func89, Try.ntmps89
  go_wp2_with (fail); go_at_call 90; refine (H.out _).mono ?_; rintro e w1 ⟨rfl, hb⟩
  go_wp2
  go_ret
  exact ⟨rfl, hb⟩

theorem cToward_core (n m r : Int) (w : World) (hm : Hid (min (max n (-1073741824)) 1073741824 = m))
    (H : Hid (∀ w, Calls Try.prog 80 #[.int .i64 m] w fun e w' => e = .returned (.int .i64 r) ∧ Below w.heap.size w w')) :
    Calls Try.prog 92 #[.int .i64 n] w fun e w' => e = .returned (.int .i64 r) ∧ Below w.heap.size w w' := by
  have hm' := hm.out
  by_cases h1 : n < -1073741824
  · obtain rfl : m = -1073741824 := by omega
    go_enter Try.func92, Try.ntmps92
    go_wp2_with (fail); go_at_call 80; refine (H.out _).mono ?_; rintro e w1 ⟨rfl, hb⟩
    go_wp2
    go_ret
    exact ⟨rfl, hb⟩
  · by_cases h2 : 1073741824 < n
    · obtain rfl : m = 1073741824 := by omega
      go_enter Try.func92, Try.ntmps92
      go_wp2_with (fail); go_at_call 80; refine (H.out _).mono ?_; rintro e w1 ⟨rfl, hb⟩
      go_wp2
      go_ret
      exact ⟨rfl, hb⟩
    · obtain rfl : m = n := by omega
      go_enter Try.func92, Try.ntmps92
      go_wp2_with (fail); go_at_call 80; refine (H.out _).mono ?_; rintro e w1 ⟨rfl, hb⟩
      go_wp2
      go_ret
      exact ⟨rfl, hb⟩

theorem cCross_any (a b c d : Int) (ha : in64 a) (hb : in64 b) (hc : in64 c) (hd : in64 d) (w : World) :
    Calls Try.prog 83 #[.int .i64 a, .int .i64 b, .int .i64 c, .int .i64 d] w fun e w' => e = .returned (.int .i64 (sat (mulF a b - mulF c d))) ∧ Below w.heap.size w w' := by
  have sb := Lib.hid (fun w => FSub_any (mulF a b) (mulF c d) (mulF_bd a b).1 (mulF_bd a b).2 (mulF_bd c d).1 (mulF_bd c d).2 w)
  generalize hr : mulF a b = r at sb ⊢
  have er := Lib.hid hr
  clear hr
  generalize hs : mulF c d = s at sb ⊢
  have es := Lib.hid hs
  clear hs
  generalize sat (r - s) = q at sb ⊢
  have HA := Lib.hid ha; have HB := Lib.hid hb; have HC := Lib.hid hc; have HD := Lib.hid hd
  clear ha hb hc hd
  go_enter Try.func83, Try.ntmps83
  go_wp2_with (fail); go_at_call 69; refine (FMul_two _ a b r _ (by simp) HA.out HB.out (by simp [go_sem]) (by simp [go_sem]) er.out).mono ?_; rintro e w1 ⟨rfl, hb⟩
  have hB : Below w.heap.size w _ := below_step (by repeat (first | exact Below.refl _ _ | assumption | refine below_drewN ?_ _ | refine Below.drew ?_ | refine Below.alloc ?_ (by first | omega | (simp; done) | (simp; omega)) _ | refine Below.setCell ?_ (by first | (simp; done) | (simp; omega)) _)) hb; have hS := hB.size
  go_wp2_with (fail); go_at_call 69; refine (FMul_two _ c d s _ (by simp) HC.out HD.out (by simp [go_sem]) (by simp [go_sem]) es.out).mono ?_; rintro e w2 ⟨rfl, hb⟩
  have hB : Below w.heap.size w _ := below_step (by repeat (first | exact Below.refl _ _ | assumption | refine below_drewN ?_ _ | refine Below.drew ?_ | refine Below.alloc ?_ (by first | omega | (simp; done) | (simp; omega)) _ | refine Below.setCell ?_ (by first | (simp; done) | (simp; omega)) _)) hb; have hS := hB.size
  go_wp2_with (fail); go_at_call 71; refine (sb.out _).mono ?_; rintro e w3 ⟨rfl, rfl⟩
  go_wp2
  go_ret
  exact ⟨rfl, hB⟩

theorem RVTwo_core (x1 y1 z1 x2 y2 z2 X Y Z : Int) (w : World)
    (fx : Hid (∀ w, Calls Try.prog 82 #[.int .i64 x1, .int .i64 x2] w fun e w' => e = .returned (.int .i64 X) ∧ w = w'))
    (fy : Hid (∀ w, Calls Try.prog 82 #[.int .i64 y1, .int .i64 y2] w fun e w' => e = .returned (.int .i64 Y) ∧ w = w'))
    (fz : Hid (∀ w, Calls Try.prog 82 #[.int .i64 z1, .int .i64 z2] w fun e w' => e = .returned (.int .i64 Z) ∧ w = w')) :
    Calls Try.prog 67 #[(.agg #[.int .i64 x1, .int .i64 y1, .int .i64 z1]), (.agg #[.int .i64 x2, .int .i64 y2, .int .i64 z2])] w fun e w' => e = .returned (.agg #[.int .i64 X, .int .i64 Y, .int .i64 Z]) ∧ Below w.heap.size w w' := by
  go_enter Try.func67, Try.ntmps67
  go_wp2_with (fail)
  refine wp_region_still_tail 16 (by kernel_rfl) (by kernel_rfl) ?_; simp only [List.take_succ_cons, List.take_zero, List.drop_succ_cons, List.drop_zero]; change wpStill _ _ (World.drew _) (fun a1 => wpList _ _ _ _ a1 (World.drew _)) _ _; repeat still_step
  refine wpStill_step (fun K hK => ?_); go_simp; refine ⟨_, (fx.out _).mono (fun _ _ h => ⟨h.1, h.2.symm⟩), hK _ ?_⟩; clear hK K; repeat still_step
  refine wpStill_step (fun K hK => ?_); go_simp; refine ⟨_, (fy.out _).mono (fun _ _ h => ⟨h.1, h.2.symm⟩), hK _ ?_⟩; clear hK K; repeat still_step
  refine wpStill_step (fun K hK => ?_); go_simp; refine ⟨_, (fz.out _).mono (fun _ _ h => ⟨h.1, h.2.symm⟩), hK _ ?_⟩; clear hK K; repeat still_step
  refine wpStill_nil ?_
  go_wp2
  exact bodyPost_ret (v := (.agg #[.int .i64 X, .int .i64 Y, .int .i64 Z])) (by simp [results, Try.results67, go_sem]) rfl ⟨rfl, (by repeat (first | exact Below.refl _ _ | assumption | refine below_drewN ?_ _ | refine Below.drew ?_ | refine Below.alloc ?_ (by first | omega | (simp; done) | (simp; omega)) _ | refine Below.setCell ?_ (by first | (simp; done) | (simp; omega)) _))⟩

theorem RVBoth_core (x1 y1 z1 x2 y2 z2 X Y Z : Int) (w : World)
    (fx : Hid (∀ w, Calls Try.prog 75 #[.int .i64 x1, .int .i64 x2] w fun e w' => e = .returned (.int .i64 X) ∧ w = w'))
    (fy : Hid (∀ w, Calls Try.prog 75 #[.int .i64 y1, .int .i64 y2] w fun e w' => e = .returned (.int .i64 Y) ∧ w = w'))
    (fz : Hid (∀ w, Calls Try.prog 75 #[.int .i64 z1, .int .i64 z2] w fun e w' => e = .returned (.int .i64 Z) ∧ w = w')) :
    Calls Try.prog 70 #[(.agg #[.int .i64 x1, .int .i64 y1, .int .i64 z1]), (.agg #[.int .i64 x2, .int .i64 y2, .int .i64 z2])] w fun e w' => e = .returned (.agg #[.int .i64 X, .int .i64 Y, .int .i64 Z]) ∧ Below w.heap.size w w' := by
  go_enter Try.func70, Try.ntmps70
  go_wp2_with (fail)
  refine wp_region_still_tail 16 (by kernel_rfl) (by kernel_rfl) ?_; simp only [List.take_succ_cons, List.take_zero, List.drop_succ_cons, List.drop_zero]; change wpStill _ _ (World.drew _) (fun a1 => wpList _ _ _ _ a1 (World.drew _)) _ _; repeat still_step
  refine wpStill_step (fun K hK => ?_); go_simp; refine ⟨_, (fx.out _).mono (fun _ _ h => ⟨h.1, h.2.symm⟩), hK _ ?_⟩; clear hK K; repeat still_step
  refine wpStill_step (fun K hK => ?_); go_simp; refine ⟨_, (fy.out _).mono (fun _ _ h => ⟨h.1, h.2.symm⟩), hK _ ?_⟩; clear hK K; repeat still_step
  refine wpStill_step (fun K hK => ?_); go_simp; refine ⟨_, (fz.out _).mono (fun _ _ h => ⟨h.1, h.2.symm⟩), hK _ ?_⟩; clear hK K; repeat still_step
  refine wpStill_nil ?_
  go_wp2
  exact bodyPost_ret (v := (.agg #[.int .i64 X, .int .i64 Y, .int .i64 Z])) (by simp [results, Try.results70, go_sem]) rfl ⟨rfl, (by repeat (first | exact Below.refl _ _ | assumption | refine below_drewN ?_ _ | refine Below.drew ?_ | refine Below.alloc ?_ (by first | omega | (simp; done) | (simp; omega)) _ | refine Below.setCell ?_ (by first | (simp; done) | (simp; omega)) _))⟩

theorem RVSub_core (x1 y1 z1 x2 y2 z2 X Y Z : Int) (w : World)
    (fx : Hid (∀ w, Calls Try.prog 72 #[.int .i64 x1, .int .i64 x2] w fun e w' => e = .returned (.int .i64 X) ∧ w = w'))
    (fy : Hid (∀ w, Calls Try.prog 72 #[.int .i64 y1, .int .i64 y2] w fun e w' => e = .returned (.int .i64 Y) ∧ w = w'))
    (fz : Hid (∀ w, Calls Try.prog 72 #[.int .i64 z1, .int .i64 z2] w fun e w' => e = .returned (.int .i64 Z) ∧ w = w')) :
    Calls Try.prog 20 #[(.agg #[.int .i64 x1, .int .i64 y1, .int .i64 z1]), (.agg #[.int .i64 x2, .int .i64 y2, .int .i64 z2])] w fun e w' => e = .returned (.agg #[.int .i64 X, .int .i64 Y, .int .i64 Z]) ∧ Below w.heap.size w w' := by
  go_enter Try.func20, Try.ntmps20
  go_wp2_with (fail)
  refine wp_region_still_tail 16 (by kernel_rfl) (by kernel_rfl) ?_; simp only [List.take_succ_cons, List.take_zero, List.drop_succ_cons, List.drop_zero]; change wpStill _ _ (World.drew _) (fun a1 => wpList _ _ _ _ a1 (World.drew _)) _ _; repeat still_step
  refine wpStill_step (fun K hK => ?_); go_simp; refine ⟨_, (fx.out _).mono (fun _ _ h => ⟨h.1, h.2.symm⟩), hK _ ?_⟩; clear hK K; repeat still_step
  refine wpStill_step (fun K hK => ?_); go_simp; refine ⟨_, (fy.out _).mono (fun _ _ h => ⟨h.1, h.2.symm⟩), hK _ ?_⟩; clear hK K; repeat still_step
  refine wpStill_step (fun K hK => ?_); go_simp; refine ⟨_, (fz.out _).mono (fun _ _ h => ⟨h.1, h.2.symm⟩), hK _ ?_⟩; clear hK K; repeat still_step
  refine wpStill_nil ?_
  go_wp2
  exact bodyPost_ret (v := (.agg #[.int .i64 X, .int .i64 Y, .int .i64 Z])) (by simp [results, Try.results20, go_sem]) rfl ⟨rfl, (by repeat (first | exact Below.refl _ _ | assumption | refine below_drewN ?_ _ | refine Below.drew ?_ | refine Below.alloc ?_ (by first | omega | (simp; done) | (simp; omega)) _ | refine Below.setCell ?_ (by first | (simp; done) | (simp; omega)) _))⟩

theorem RVScale_core (x1 y1 z1 k X Y Z : Int) (w : World)
    (fx : Hid (∀ w, Calls Try.prog 75 #[.int .i64 x1, .int .i64 k] w fun e w' => e = .returned (.int .i64 X) ∧ w = w'))
    (fy : Hid (∀ w, Calls Try.prog 75 #[.int .i64 y1, .int .i64 k] w fun e w' => e = .returned (.int .i64 Y) ∧ w = w'))
    (fz : Hid (∀ w, Calls Try.prog 75 #[.int .i64 z1, .int .i64 k] w fun e w' => e = .returned (.int .i64 Z) ∧ w = w')) :
    Calls Try.prog 23 #[(.agg #[.int .i64 x1, .int .i64 y1, .int .i64 z1]), .int .i64 k] w fun e w' => e = .returned (.agg #[.int .i64 X, .int .i64 Y, .int .i64 Z]) ∧ Below w.heap.size w w' := by
  go_enter Try.func23, Try.ntmps23
  go_wp2_with (fail)
  refine wp_region_still_tail 13 (by kernel_rfl) (by kernel_rfl) ?_; simp only [List.take_succ_cons, List.take_zero, List.drop_succ_cons, List.drop_zero]; change wpStill _ _ (World.drew _) (fun a1 => wpList _ _ _ _ a1 (World.drew _)) _ _; repeat still_step
  refine wpStill_step (fun K hK => ?_); go_simp; refine ⟨_, (fx.out _).mono (fun _ _ h => ⟨h.1, h.2.symm⟩), hK _ ?_⟩; clear hK K; repeat still_step
  refine wpStill_step (fun K hK => ?_); go_simp; refine ⟨_, (fy.out _).mono (fun _ _ h => ⟨h.1, h.2.symm⟩), hK _ ?_⟩; clear hK K; repeat still_step
  refine wpStill_step (fun K hK => ?_); go_simp; refine ⟨_, (fz.out _).mono (fun _ _ h => ⟨h.1, h.2.symm⟩), hK _ ?_⟩; clear hK K; repeat still_step
  refine wpStill_nil ?_
  go_wp2
  exact bodyPost_ret (v := (.agg #[.int .i64 X, .int .i64 Y, .int .i64 Z])) (by simp [results, Try.results23, go_sem]) rfl ⟨rfl, (by repeat (first | exact Below.refl _ _ | assumption | refine below_drewN ?_ _ | refine Below.drew ?_ | refine Below.alloc ?_ (by first | omega | (simp; done) | (simp; omega)) _ | refine Below.setCell ?_ (by first | (simp; done) | (simp; omega)) _))⟩

theorem RVLerp_core (x1 y1 z1 x2 y2 z2 k X Y Z : Int) (w : World)
    (fx : Hid (∀ w, Calls Try.prog 78 #[.int .i64 x1, .int .i64 x2, .int .i64 k] w fun e w' => e = .returned (.int .i64 X) ∧ w = w'))
    (fy : Hid (∀ w, Calls Try.prog 78 #[.int .i64 y1, .int .i64 y2, .int .i64 k] w fun e w' => e = .returned (.int .i64 Y) ∧ w = w'))
    (fz : Hid (∀ w, Calls Try.prog 78 #[.int .i64 z1, .int .i64 z2, .int .i64 k] w fun e w' => e = .returned (.int .i64 Z) ∧ w = w')) :
    Calls Try.prog 25 #[(.agg #[.int .i64 x1, .int .i64 y1, .int .i64 z1]), (.agg #[.int .i64 x2, .int .i64 y2, .int .i64 z2]), .int .i64 k] w fun e w' => e = .returned (.agg #[.int .i64 X, .int .i64 Y, .int .i64 Z]) ∧ Below w.heap.size w w' := by
  go_enter Try.func25, Try.ntmps25
  go_wp2_with (fail)
  refine wp_region_still_tail 19 (by kernel_rfl) (by kernel_rfl) ?_; simp only [List.take_succ_cons, List.take_zero, List.drop_succ_cons, List.drop_zero]; change wpStill _ _ (World.drew _) (fun a1 => wpList _ _ _ _ a1 (World.drew _)) _ _; repeat still_step
  refine wpStill_step (fun K hK => ?_); go_simp; refine ⟨_, (fx.out _).mono (fun _ _ h => ⟨h.1, h.2.symm⟩), hK _ ?_⟩; clear hK K; repeat still_step
  refine wpStill_step (fun K hK => ?_); go_simp; refine ⟨_, (fy.out _).mono (fun _ _ h => ⟨h.1, h.2.symm⟩), hK _ ?_⟩; clear hK K; repeat still_step
  refine wpStill_step (fun K hK => ?_); go_simp; refine ⟨_, (fz.out _).mono (fun _ _ h => ⟨h.1, h.2.symm⟩), hK _ ?_⟩; clear hK K; repeat still_step
  refine wpStill_nil ?_
  go_wp2
  exact bodyPost_ret (v := (.agg #[.int .i64 X, .int .i64 Y, .int .i64 Z])) (by simp [results, Try.results25, go_sem]) rfl ⟨rfl, (by repeat (first | exact Below.refl _ _ | assumption | refine below_drewN ?_ _ | refine Below.drew ?_ | refine Below.alloc ?_ (by first | omega | (simp; done) | (simp; omega)) _ | refine Below.setCell ?_ (by first | (simp; done) | (simp; omega)) _))⟩

theorem RVOf_core (x1 y1 z1 X Y Z : Int) (w : World)
    (fx : Hid (∀ w, Calls Try.prog 81 #[.int .i64 x1] w fun e w' => e = .returned (.int .i64 X) ∧ w = w'))
    (fy : Hid (∀ w, Calls Try.prog 81 #[.int .i64 y1] w fun e w' => e = .returned (.int .i64 Y) ∧ w = w'))
    (fz : Hid (∀ w, Calls Try.prog 81 #[.int .i64 z1] w fun e w' => e = .returned (.int .i64 Z) ∧ w = w')) :
    Calls Try.prog 27 #[(.agg #[.int .i64 x1, .int .i64 y1, .int .i64 z1])] w fun e w' => e = .returned (.agg #[.int .i64 X, .int .i64 Y, .int .i64 Z]) ∧ Below w.heap.size w w' := by
  go_enter Try.func27, Try.ntmps27
  go_wp2_with (fail)
  refine wp_region_still_tail 10 (by kernel_rfl) (by kernel_rfl) ?_; simp only [List.take_succ_cons, List.take_zero, List.drop_succ_cons, List.drop_zero]; change wpStill _ _ (World.drew _) (fun a1 => wpList _ _ _ _ a1 (World.drew _)) _ _; repeat still_step
  refine wpStill_step (fun K hK => ?_); go_simp; refine ⟨_, (fx.out _).mono (fun _ _ h => ⟨h.1, h.2.symm⟩), hK _ ?_⟩; clear hK K; repeat still_step
  refine wpStill_step (fun K hK => ?_); go_simp; refine ⟨_, (fy.out _).mono (fun _ _ h => ⟨h.1, h.2.symm⟩), hK _ ?_⟩; clear hK K; repeat still_step
  refine wpStill_step (fun K hK => ?_); go_simp; refine ⟨_, (fz.out _).mono (fun _ _ h => ⟨h.1, h.2.symm⟩), hK _ ?_⟩; clear hK K; repeat still_step
  refine wpStill_nil ?_
  go_wp2
  exact bodyPost_ret (v := (.agg #[.int .i64 X, .int .i64 Y, .int .i64 Z])) (by simp [results, Try.results27, go_sem]) rfl ⟨rfl, (by repeat (first | exact Below.refl _ _ | assumption | refine below_drewN ?_ _ | refine Below.drew ?_ | refine Below.alloc ?_ (by first | omega | (simp; done) | (simp; omega)) _ | refine Below.setCell ?_ (by first | (simp; done) | (simp; omega)) _))⟩
end Go.Proofs.Ytalclbngpimajaa
