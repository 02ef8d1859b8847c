/- Package vec, and the document's: inner and outer products, the greatest part. -/
import Derived.Test.YtgggngcgcpmkbaaVF
import Derived.StillTailTactics
import Derived.Deep.RegionHeld3
namespace Go.Proofs.Ytgggngcgcpmkbaa
set_option linter.unusedVariables false
set_option maxRecDepth 2000
set_option linter.unusedSimpArgs false
open Go.RowKit
attribute [local go_sem] setCell_twice setCell_pair

theorem mulF_in (a b : Int) : in64 (mulF a b) := in64_sat _
theorem mulF_comm (a b : Int) : mulF a b = mulF b a := by unfold mulF; rw [Int.mul_comm]

/-- two vectors in one block -/
structure Six (blk : Nat) (x1 y1 z1 x2 y2 z2 : Int) (W : World) : Prop where
  lt : blk < W.heap.size
  c0 : W.cell? ⟨blk, 0, none⟩ = some (.int .i64 x1)
  c1 : W.cell? ⟨blk, 1, none⟩ = some (.int .i64 y1)
  c2 : W.cell? ⟨blk, 2, none⟩ = some (.int .i64 z1)
  c3 : W.cell? ⟨blk, 3, none⟩ = some (.int .i64 x2)
  c4 : W.cell? ⟨blk, 4, none⟩ = some (.int .i64 y2)
  c5 : W.cell? ⟨blk, 5, none⟩ = some (.int .i64 z2)
theorem Six.sl {blk : Nat} {x1 y1 z1 x2 y2 z2 : Int} {W : World} (h : Six blk x1 y1 z1 x2 y2 z2 W) (hx1 : in64 x1) (hy1 : in64 y1) (hz1 : in64 z1) (hx2 : in64 x2) (hy2 : in64 y2) (hz2 : in64 z2) : VecSl W blk 0 2 [(x1, y1, z1), (x2, y2, z2)] :=
  ⟨rfl, fun k hk => match k, hk with | 0, _ => ⟨hx1, hy1, hz1⟩ | 1, _ => ⟨hx2, hy2, hz2⟩, fun k hk => match k, hk with | 0, _ => ⟨h.c0, h.c1, h.c2⟩ | 1, _ => ⟨h.c3, h.c4, h.c5⟩⟩

theorem VTimes_two (blk : Nat) (x1 y1 z1 x2 y2 z2 : Int) (hx1 : in64 x1) (hy1 : in64 y1) (hz1 : in64 z1) (hx2 : in64 x2) (hy2 : in64 y2) (hz2 : in64 z2) (w : World) (h : Six blk x1 y1 z1 x2 y2 z2 w) :
    Calls Try.prog 126 #[.slice (some ⟨blk, 0, none⟩) 2 2] w fun e w' => e = .returned (.agg #[.int .i64 (mulF x1 x2), .int .i64 (mulF y1 y2), .int .i64 (mulF z1 z2)]) ∧ Below w.heap.size w w' :=
  VTimes_walk blk 0 2 2 [(x1, y1, z1), (x2, y2, z2)] (mulF x1 x2, mulF y1 y2, mulF z1 z2) (by omega) w h.lt (h.sl hx1 hy1 hz1 hx2 hy2 hz2) (by
    show proV (proV (4294967296, 4294967296, 4294967296) (x1, y1, z1)) (x2, y2, z2) = _
    unfold proV
    simp only [mulF_one x1 hx1, mulF_one y1 hy1, mulF_one z1 hz1])

theorem VAdd_two (blk : Nat) (x1 y1 z1 x2 y2 z2 : Int) (hx1 : in64 x1) (hy1 : in64 y1) (hz1 : in64 z1) (hx2 : in64 x2) (hy2 : in64 y2) (hz2 : in64 z2) (w : World) (h : Six blk x1 y1 z1 x2 y2 z2 w) :
    Calls Try.prog 113 #[.slice (some ⟨blk, 0, none⟩) 2 2] w fun e w' => e = .returned (.agg #[.int .i64 (sat (x1 + x2)), .int .i64 (sat (y1 + y2)), .int .i64 (sat (z1 + z2))]) ∧ Below w.heap.size w w' :=
  VAdd_walk blk 0 2 2 [(x1, y1, z1), (x2, y2, z2)] (sat (x1 + x2), sat (y1 + y2), sat (z1 + z2)) (by omega) w h.lt (h.sl hx1 hy1 hz1 hx2 hy2 hz2) (by
    show sumV (sumV (0, 0, 0) (x1, y1, z1)) (x2, y2, z2) = _
    unfold sumV
    simp only [Int.zero_add, sat_in x1 hx1.1 hx1.2, sat_in y1 hy1.1 hy1.2, sat_in z1 hz1.1 hz1.2])

theorem FAdd_three (blk : Nat) (x y z R : Int) (w : World) (hx : in64 x) (hy : in64 y) (hz : in64 z) (c0 : w.cell? ⟨blk, 0, none⟩ = some (.int .i64 x)) (c1 : w.cell? ⟨blk, 1, none⟩ = some (.int .i64 y)) (c2 : w.cell? ⟨blk, 2, none⟩ = some (.int .i64 z)) (hR : sat (sat (x + y) + z) = R) :
    Calls Try.prog 123 #[.slice (some ⟨blk, 0, none⟩) 3 3] w fun e w' => e = .returned (.int .i64 R) ∧ w = w' := by
  refine FAdd_walk blk 0 3 3 [x, y, z] R (by omega) w ⟨rfl, fun k hk => match k, hk with | 0, _ => hx | 1, _ => hy | 2, _ => hz, fun k hk => match k, hk with | 0, _ => c0 | 1, _ => c1 | 2, _ => c2⟩ ?_
  show sat (sat (sat (0 + x) + y) + z) = R
  rw [Int.zero_add, sat_in x hx.1 hx.2, hR]

/-- the inner product -/
def dotF (x1 y1 z1 x2 y2 z2 : Int) : Int := sat (sat (mulF x1 x2 + mulF y1 y2) + mulF z1 z2)

theorem VDot_core (x1 y1 z1 x2 y2 z2 m1 m2 m3 D : Int) (w : World) (i1 : Hid (in64 m1)) (i2 : Hid (in64 m2)) (i3 : Hid (in64 m3)) (hD : Hid (sat (sat (m1 + m2) + m3) = D))
    (H : Hid (∀ w blk, Six blk x1 y1 z1 x2 y2 z2 w → Calls Try.prog 126 #[.slice (some ⟨blk, 0, none⟩) 2 2] w fun e w' => e = .returned (.agg #[.int .i64 m1, .int .i64 m2, .int .i64 m3]) ∧ Below w.heap.size w w')) :
    Calls Try.prog 117 #[(.agg #[.int .i64 x1, .int .i64 y1, .int .i64 z1]), (.agg #[.int .i64 x2, .int .i64 y2, .int .i64 z2])] w fun e w' => e = .returned (.int .i64 D) ∧ Below w.heap.size w w' := by
  go_enter Try.func117, Try.ntmps117
  go_wp2_with (fail); go_at_call 126; refine (H.out _ _ ⟨by simp, by simp [go_sem], by simp [go_sem], by simp [go_sem], by simp [go_sem], by simp [go_sem], by simp [go_sem]⟩).mono ?_; rintro e w1 ⟨rfl, hb⟩
  have hB : Below w.heap.size w _ := below_step (by repeat (first | exact Below.refl _ _ | assumption | refine below_drewN ?_ _ | refine Below.drew ?_ | refine Below.alloc ?_ (by first | omega | (simp; done) | (simp; omega)) _ | refine Below.setCell ?_ (by first | (simp; done) | (simp; omega)) _)) hb; have hS := hB.size
  clear hb
  go_wp2_with (fail); go_at_call 123; refine (FAdd_three _ m1 m2 m3 D _ i1.out i2.out i3.out (by simp [go_sem]) (by simp [go_sem]) (by simp [go_sem]) hD.out).mono ?_; rintro e w2 ⟨rfl, rfl⟩
  go_wp2
  go_ret
  exact ⟨rfl, (by repeat (first | exact Below.refl _ _ | assumption | refine below_drewN ?_ _ | refine Below.drew ?_ | refine Below.alloc ?_ (by first | omega | (simp; done) | (simp; omega)) _ | refine Below.setCell ?_ (by first | (simp; done) | (simp; omega)) _))⟩

theorem VDot_any (x1 y1 z1 x2 y2 z2 : Int) (hx1 : in64 x1) (hy1 : in64 y1) (hz1 : in64 z1) (hx2 : in64 x2) (hy2 : in64 y2) (hz2 : in64 z2) (w : World) :
    Calls Try.prog 117 #[(.agg #[.int .i64 x1, .int .i64 y1, .int .i64 z1]), (.agg #[.int .i64 x2, .int .i64 y2, .int .i64 z2])] w fun e w' => e = .returned (.int .i64 (dotF x1 y1 z1 x2 y2 z2)) ∧ Below w.heap.size w w' :=
  VDot_core x1 y1 z1 x2 y2 z2 _ _ _ _ w (Lib.hid (mulF_in _ _)) (Lib.hid (mulF_in _ _)) (Lib.hid (mulF_in _ _)) (Lib.hid rfl) (Lib.hid (fun w blk h => VTimes_two blk x1 y1 z1 x2 y2 z2 hx1 hy1 hz1 hx2 hy2 hz2 w h))

theorem RVDot_core (x1 y1 z1 x2 y2 z2 m1 m2 m3 s D : Int) (w : World)
    (t1 : Hid (∀ w, Calls Try.prog 119 #[.int .i64 x1, .int .i64 x2] w fun e w' => e = .returned (.int .i64 m1) ∧ w = w'))
    (t2 : Hid (∀ w, Calls Try.prog 119 #[.int .i64 y1, .int .i64 y2] w fun e w' => e = .returned (.int .i64 m2) ∧ w = w'))
    (t3 : Hid (∀ w, Calls Try.prog 119 #[.int .i64 z1, .int .i64 z2] w fun e w' => e = .returned (.int .i64 m3) ∧ w = w'))
    (a1 : Hid (∀ w, Calls Try.prog 118 #[.int .i64 0, .int .i64 m1] w fun e w' => e = .returned (.int .i64 m1) ∧ w = w'))
    (a2 : Hid (∀ w, Calls Try.prog 118 #[.int .i64 m1, .int .i64 m2] w fun e w' => e = .returned (.int .i64 s) ∧ w = w'))
    (a3 : Hid (∀ w, Calls Try.prog 118 #[.int .i64 s, .int .i64 m3] w fun e w' => e = .returned (.int .i64 D) ∧ w = w')) :
    Calls Try.prog 108 #[(.agg #[.int .i64 x1, .int .i64 y1, .int .i64 z1]), (.agg #[.int .i64 x2, .int .i64 y2, .int .i64 z2])] w fun e w' => e = .returned (.int .i64 D) ∧ Below w.heap.size w w' := by
  go_enter Try.func108, Try.ntmps108
  go_wp2_with (fail); go_at_call 119; refine (t1.out _).mono ?_; rintro e w1 ⟨rfl, rfl⟩
  go_wp2_with (fail); go_at_call 118; refine (a1.out _).mono ?_; rintro e w1 ⟨rfl, rfl⟩
  go_wp2_with (fail); go_at_call 119; refine (t2.out _).mono ?_; rintro e w1 ⟨rfl, rfl⟩
  go_wp2_with (fail); go_at_call 118; refine (a2.out _).mono ?_; rintro e w1 ⟨rfl, rfl⟩
  go_wp2_with (fail); go_at_call 119; refine (t3.out _).mono ?_; rintro e w1 ⟨rfl, rfl⟩
  go_wp2_with (fail); go_at_call 118; refine (a3.out _).mono ?_; rintro e w1 ⟨rfl, rfl⟩
  go_wp2
  go_ret
  exact ⟨rfl, (by repeat (first | exact Below.refl _ _ | assumption | refine below_drewN ?_ _ | refine Below.drew ?_ | refine Below.alloc ?_ (by first | omega | (simp; done) | (simp; omega)) _ | refine Below.setCell ?_ (by first | (simp; done) | (simp; omega)) _))⟩

theorem RVDot_any (x1 y1 z1 x2 y2 z2 : Int) (hx1 : in64 x1) (hy1 : in64 y1) (hz1 : in64 z1) (hx2 : in64 x2) (hy2 : in64 y2) (hz2 : in64 z2) (w : World) :
    Calls Try.prog 108 #[(.agg #[.int .i64 x1, .int .i64 y1, .int .i64 z1]), (.agg #[.int .i64 x2, .int .i64 y2, .int .i64 z2])] w fun e w' => e = .returned (.int .i64 (dotF x1 y1 z1 x2 y2 z2)) ∧ Below w.heap.size w w' := by
  have i1 := mulF_in x1 x2
  have i2 := mulF_in y1 y2
  have i3 := mulF_in z1 z2
  have i4 := in64_sat (mulF x1 x2 + mulF y1 y2)
  refine RVDot_core x1 y1 z1 x2 y2 z2 _ _ _ _ _ w (fun w => RTimes_any x1 x2 hx1.1 hx1.2 hx2.1 hx2.2 w) (fun w => RTimes_any y1 y2 hy1.1 hy1.2 hy2.1 hy2.2 w) (fun w => RTimes_any z1 z2 hz1.1 hz1.2 hz2.1 hz2.2 w) (fun w => ?_) (fun w => Two_any _ _ i1.1 i1.2 i2.1 i2.2 w) (fun w => Two_any _ _ i4.1 i4.2 i3.1 i3.2 w)
  have h := Two_any 0 (mulF x1 x2) (by omega) (by omega) i1.1 i1.2 w
  rw [Int.zero_add, sat_in _ i1.1 i1.2] at h
  exact h

/-- a part of the outer product -/
def crossF (a b c d : Int) : Int := sat (mulF a b - mulF c d)

theorem RCross_part (a b c d : Int) (ha : in64 a) (hb : in64 b) (hc : in64 c) (hd : in64 d) (w : World) :
    Calls Try.prog 115 #[.int .i64 (mulF a b), .int .i64 (mulF c d)] w fun e w' => e = .returned (.int .i64 (crossF a b c d)) ∧ w = w' :=
  RSub_any _ _ (mulF_in a b).1 (mulF_in a b).2 (mulF_in c d).1 (mulF_in c d).2 w

/-- the greatest size of a part -/
def mostF (x y z : Int) : Int := max (max (absF x) (absF y)) (absF z)
theorem absF_in (x : Int) (h : in64 x) : in64 (absF x) := by unfold absF; split; exact in64_sat _; exact h

theorem VMost_core (x y z a b c m : Int) (w : World) (hm : Hid (max (max a b) c = m))
    (H : Hid (∀ w, Calls Try.prog 99 #[.int .i64 x, .int .i64 y, .int .i64 z, .func (.func 100) #[] #[]] w fun e w' => e = .returned (.agg #[.int .i64 a, .int .i64 b, .int .i64 c]) ∧ Below w.heap.size w w')) :
    Calls Try.prog 69 #[(.agg #[.int .i64 x, .int .i64 y, .int .i64 z])] w fun e w' => e = .returned (.int .i64 m) ∧ Below w.heap.size w w' := by
  go_enter Try.func69, Try.ntmps69
  go_wp2_with (fail); go_at_call 99; refine (H.out _).mono ?_; rintro e w1 ⟨rfl, hb⟩
  have hB : Below w.heap.size w _ := below_step (by repeat (first | exact Below.refl _ _ | assumption | refine below_drewN ?_ _ | refine Below.drew ?_ | refine Below.alloc ?_ (by first | omega | (simp; done) | (simp; omega)) _ | refine Below.setCell ?_ (by first | (simp; done) | (simp; omega)) _)) hb; have hS := hB.size
  clear hb
  go_wp2
  all_goals go_ret
  all_goals exact ⟨ret_int (by have := hm.out; omega), (by repeat (first | exact Below.refl _ _ | assumption | refine below_drewN ?_ _ | refine Below.drew ?_ | refine Below.alloc ?_ (by first | omega | (simp; done) | (simp; omega)) _ | refine Below.setCell ?_ (by first | (simp; done) | (simp; omega)) _))⟩

theorem VMost_any (x y z : Int) (hx : in64 x) (hy : in64 y) (hz : in64 z) (w : World) :
    Calls Try.prog 69 #[(.agg #[.int .i64 x, .int .i64 y, .int .i64 z])] w fun e w' => e = .returned (.int .i64 (mostF x y z)) ∧ Below w.heap.size w w' :=
  VMost_core x y z _ _ _ _ w (Lib.hid rfl) (Lib.hid (fun w => eachAbs_any x y z hx hy hz w))

theorem Rsize_any (x : Int) (hx : in64 x) (w : World) :
    Calls Try.prog 101 #[.int .i64 x] w fun e w' => e = .returned (.int .i64 (absF x)) ∧ w = w' := by
  have H := Lib.hid (fun w => RSub_any 0 x (by omega) (by omega) hx.1 hx.2 w)
  unfold absF
  by_cases hn : x < 0
  · rw [if_pos hn]
    rw [Int.zero_sub] at H
    clear hx
    go_enter Try.func101, Try.ntmps101
    go_wp2_with (fail); go_at_call 115; refine (H.out _).mono ?_; rintro e w1 ⟨rfl, rfl⟩
    go_wp2
    go_ret
    exact ⟨rfl, rfl⟩
  · rw [if_neg hn]
    clear hx
    go_enter Try.func101, Try.ntmps101
    go_wp2
    go_ret
    exact ⟨rfl, rfl⟩

theorem RVMost_core (x y z a b c m : Int) (w : World) (hm : Hid (max (max a b) c = m))
    (sx : Hid (∀ w, Calls Try.prog 101 #[.int .i64 x] w fun e w' => e = .returned (.int .i64 a) ∧ w = w'))
    (sy : Hid (∀ w, Calls Try.prog 101 #[.int .i64 y] w fun e w' => e = .returned (.int .i64 b) ∧ w = w'))
    (sz : Hid (∀ w, Calls Try.prog 101 #[.int .i64 z] w fun e w' => e = .returned (.int .i64 c) ∧ w = w')) :
    Calls Try.prog 72 #[(.agg #[.int .i64 x, .int .i64 y, .int .i64 z])] w fun e w' => e = .returned (.int .i64 m) ∧ Below w.heap.size w w' := by
  by_cases h1 : a < b
  · by_cases h2 : b < c
    · go_enter Try.func72, Try.ntmps72
      go_wp2_with (fail); go_at_call 101; refine (sx.out _).mono ?_; rintro e w1 ⟨rfl, rfl⟩
      go_wp2_with (fail); go_at_call 101; refine (sy.out _).mono ?_; rintro e w1 ⟨rfl, rfl⟩
      go_wp2_with (fail); go_at_call 101; refine (sy.out _).mono ?_; rintro e w1 ⟨rfl, rfl⟩
      go_wp2_with (fail); go_at_call 101; refine (sz.out _).mono ?_; rintro e w1 ⟨rfl, rfl⟩
      go_wp2_with (fail); go_at_call 101; refine (sz.out _).mono ?_; rintro e w1 ⟨rfl, rfl⟩
      go_wp2
      go_ret
      exact ⟨ret_int (by have := hm.out; omega), (by repeat (first | exact Below.refl _ _ | assumption | refine below_drewN ?_ _ | refine Below.drew ?_ | refine Below.alloc ?_ (by first | omega | (simp; done) | (simp; omega)) _ | refine Below.setCell ?_ (by first | (simp; done) | (simp; omega)) _))⟩
    · go_enter Try.func72, Try.ntmps72
      go_wp2_with (fail); go_at_call 101; refine (sx.out _).mono ?_; rintro e w1 ⟨rfl, rfl⟩
      go_wp2_with (fail); go_at_call 101; refine (sy.out _).mono ?_; rintro e w1 ⟨rfl, rfl⟩
      go_wp2_with (fail); go_at_call 101; refine (sy.out _).mono ?_; rintro e w1 ⟨rfl, rfl⟩
      go_wp2_with (fail); go_at_call 101; refine (sz.out _).mono ?_; rintro e w1 ⟨rfl, rfl⟩
      go_wp2
      go_ret
      exact ⟨ret_int (by have := hm.out; omega), (by repeat (first | exact Below.refl _ _ | assumption | refine below_drewN ?_ _ | refine Below.drew ?_ | refine Below.alloc ?_ (by first | omega | (simp; done) | (simp; omega)) _ | refine Below.setCell ?_ (by first | (simp; done) | (simp; omega)) _))⟩
  · by_cases h2 : a < c
    · go_enter Try.func72, Try.ntmps72
      go_wp2_with (fail); go_at_call 101; refine (sx.out _).mono ?_; rintro e w1 ⟨rfl, rfl⟩
      go_wp2_with (fail); go_at_call 101; refine (sy.out _).mono ?_; rintro e w1 ⟨rfl, rfl⟩
      go_wp2_with (fail); go_at_call 101; refine (sz.out _).mono ?_; rintro e w1 ⟨rfl, rfl⟩
      go_wp2_with (fail); go_at_call 101; refine (sz.out _).mono ?_; rintro e w1 ⟨rfl, rfl⟩
      go_wp2
      go_ret
      exact ⟨ret_int (by have := hm.out; omega), (by repeat (first | exact Below.refl _ _ | assumption | refine below_drewN ?_ _ | refine Below.drew ?_ | refine Below.alloc ?_ (by first | omega | (simp; done) | (simp; omega)) _ | refine Below.setCell ?_ (by first | (simp; done) | (simp; omega)) _))⟩
    · go_enter Try.func72, Try.ntmps72
      go_wp2_with (fail); go_at_call 101; refine (sx.out _).mono ?_; rintro e w1 ⟨rfl, rfl⟩
      go_wp2_with (fail); go_at_call 101; refine (sy.out _).mono ?_; rintro e w1 ⟨rfl, rfl⟩
      go_wp2_with (fail); go_at_call 101; refine (sz.out _).mono ?_; rintro e w1 ⟨rfl, rfl⟩
      go_wp2
      go_ret
      exact ⟨ret_int (by have := hm.out; omega), (by repeat (first | exact Below.refl _ _ | assumption | refine below_drewN ?_ _ | refine Below.drew ?_ | refine Below.alloc ?_ (by first | omega | (simp; done) | (simp; omega)) _ | refine Below.setCell ?_ (by first | (simp; done) | (simp; omega)) _))⟩

theorem RVMost_any (x y z : Int) (hx : in64 x) (hy : in64 y) (hz : in64 z) (w : World) :
    Calls Try.prog 72 #[(.agg #[.int .i64 x, .int .i64 y, .int .i64 z])] w fun e w' => e = .returned (.int .i64 (mostF x y z)) ∧ Below w.heap.size w w' :=
  RVMost_core x y z _ _ _ _ w (Lib.hid rfl) (fun w => Rsize_any x hx w) (fun w => Rsize_any y hy w) (fun w => Rsize_any z hz w)
end Go.Proofs.Ytgggngcgcpmkbaa
