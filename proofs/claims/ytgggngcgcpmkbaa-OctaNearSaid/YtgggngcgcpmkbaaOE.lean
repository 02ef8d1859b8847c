/- Package octa, and the document's: codes of directions. -/
import Derived.Test.YtgggngcgcpmkbaaOD
import Derived.Test.YtgggngcgcpmkbaaOB
import Derived.Deep.DeepCutAuto
import Derived.Deep.RegionHeld3
namespace Go.Proofs.Ytgggngcgcpmkbaa
set_option linter.unusedVariables false
set_option maxRecDepth 2000
set_option linter.unusedSimpArgs false
open Go.RowKit
attribute [local go_sem] setCell_twice setCell_pair
theorem OEncode_no (x y z : Int) (w : World) (my : Hid (∀ w, Calls Try.prog 22 #[(.agg #[.int .i64 x, .int .i64 y, .int .i64 z])] w fun e w' => e = .returned (.bool false) ∧ Below w.heap.size w w')) : Calls Try.prog 20 #[(.agg #[.int .i64 x, .int .i64 y, .int .i64 z])] w fun e w' => e = .returned (.tuple #[.int .u32 0, .int .i64 2]) ∧ Below w.heap.size w w' := by
  go_enter Try.func20, Try.ntmps20
  go_wp2_with (fail)
  go_at_call 22; refine (my.out _).mono ?_; rintro e w1 ⟨rfl, hb⟩
  go_wp2
  go_ret2
  exact ⟨rfl, Below.go (Below.al (Below.refl _ _)) hb⟩
theorem REncode_no (x y z : Int) (w : World) (my : Hid (∀ w, Calls Try.prog 23 #[(.agg #[.int .i64 x, .int .i64 y, .int .i64 z])] w fun e w' => e = .returned (.bool false) ∧ Below w.heap.size w w')) : Calls Try.prog 21 #[(.agg #[.int .i64 x, .int .i64 y, .int .i64 z])] w fun e w' => e = .returned (.tuple #[.int .u32 0, .int .i64 2]) ∧ Below w.heap.size w w' := by
  go_enter Try.func21, Try.ntmps21
  go_wp2_with (fail)
  go_at_call 23; refine (my.out _).mono ?_; rintro e w1 ⟨rfl, hb⟩
  go_wp2
  go_ret2
  exact ⟨rfl, Below.go (Below.al (Below.refl _ _)) hb⟩

set_option maxHeartbeats 4000000 in
theorem OEncode_hi (x y z A B E U V c : Int) (bA : 0 ≤ A ∧ A ≤ 16384) (bB : 0 ≤ B ∧ B ≤ 16384) (bE : 0 ≤ E ∧ E ≤ 16384) (bS : 1 ≤ A + B + E) (bx : -16384 ≤ x ∧ x ≤ 16384) (by_ : -16384 ≤ y ∧ y ≤ 16384) (bz : -16384 ≤ z ∧ z ≤ 16384) (hz : 0 ≤ z) (w : World) (my : Hid (∀ w, Calls Try.prog 22 #[(.agg #[.int .i64 x, .int .i64 y, .int .i64 z])] w fun e w' => e = .returned (.bool true) ∧ Below w.heap.size w w'))
    (ax : Hid (∀ w, Calls Try.prog 62 #[.int .i64 x] w fun e w' => e = .returned (.int .i64 A) ∧ w = w')) (ay : Hid (∀ w, Calls Try.prog 62 #[.int .i64 y] w fun e w' => e = .returned (.int .i64 B) ∧ w = w')) (az : Hid (∀ w, Calls Try.prog 62 #[.int .i64 z] w fun e w' => e = .returned (.int .i64 E) ∧ w = w'))
    (qx : (16384 * x).tdiv (A + B + E) = U) (qy : (16384 * y).tdiv (A + B + E) = V) (bU : -16384 ≤ U ∧ U ≤ 16384) (bV : -16384 ≤ V ∧ V ≤ 16384)
    (jn : Hid (∀ w, Calls Try.prog 68 #[.int .i64 (U + 16384), .int .i64 (V + 16384)] w fun e w' => e = .returned (.int .u32 c) ∧ w = w')) : Calls Try.prog 20 #[(.agg #[.int .i64 x, .int .i64 y, .int .i64 z])] w fun e w' => e = .returned (.tuple #[.int .u32 c, .int .i64 0]) ∧ Below w.heap.size w w' := by
  have wU : wrap64 U = U := IntWalk.wrap64_in _ (by omega)
  have wV : wrap64 V = V := IntWalk.wrap64_in _ (by omega)
  go_enter Try.func20, Try.ntmps20
  go_wp2_with (fail)
  obtain ⟨W0, hW⟩ : ∃ W0, W0 = (w.alloc (.cells #[.int .i64 x, .int .i64 y, .int .i64 z] 24)) := ⟨_, rfl⟩
  have hB0 : Below w.heap.size w W0 := hW ▸ (Below.al (Below.refl _ _))
  have HD : Hid (Own w.heap.size [.int .i64 x, .int .i64 y, .int .i64 z] W0) := Lib.hid (hW ▸ (Own.newAt (by simp)))
  rw [← hW]
  clear hW
  obtain ⟨D, eD⟩ : ∃ X, X = w.heap.size := ⟨_, rfl⟩
  rw [← eD] at HD ⊢
  have Dw : w.heap.size ≤ D := by omega
  clear eD
  go_at_call 22; refine (my.out _).mono ?_; rintro e w1 ⟨rfl, hb⟩
  replace HD := Lib.hid (HD.out.later hb)
  have hB := Below.go hB0 hb
  clear hb hB0
  have oD := HD.out
  have D0 := oD.at 0 _ rfl
  have D1 := oD.at 1 _ rfl
  have D2 := oD.at 2 _ rfl
  have Dl := oD.lt
  clear oD
  go_wp2_with (fail)
  go_quiet (first | (go_at_call 62; with_reducible exact qEq ax.out) | (go_at_call 62; with_reducible exact qEq ay.out) | (go_at_call 62; with_reducible exact qEq az.out))
  go_wp2_with (fail)
  go_quiet (fail)
  go_wp2_with (first | (go_at_call 68; refine (jn.out _).mono ?_; rintro e w2 ⟨rfl, rfl⟩))
  go_ret2
  exact ⟨rfl, (by repeat (first | (with_reducible exact Below.refl _ _) | (with_reducible assumption) | (with_reducible refine below_drewN ?_ _) | (with_reducible refine Below.drew ?_) | (with_reducible refine Below.alloc ?_ ?_ _) | (with_reducible refine Below.setCell ?_ ?_ _) | (with_reducible exact Nat.le_refl _) | exact Nat.le_succ _ | (simp; done) | (simp; omega) | omega | fail))⟩

set_option maxHeartbeats 4000000 in
theorem OEncode_lo (x y z A B E U V U2 V2 c : Int) (bA : 0 ≤ A ∧ A ≤ 16384) (bB : 0 ≤ B ∧ B ≤ 16384) (bE : 0 ≤ E ∧ E ≤ 16384) (bS : 1 ≤ A + B + E) (bx : -16384 ≤ x ∧ x ≤ 16384) (by_ : -16384 ≤ y ∧ y ≤ 16384) (bz : -16384 ≤ z ∧ z ≤ 16384) (hz : z < 0) (w : World) (my : Hid (∀ w, Calls Try.prog 22 #[(.agg #[.int .i64 x, .int .i64 y, .int .i64 z])] w fun e w' => e = .returned (.bool true) ∧ Below w.heap.size w w'))
    (ax : Hid (∀ w, Calls Try.prog 62 #[.int .i64 x] w fun e w' => e = .returned (.int .i64 A) ∧ w = w')) (ay : Hid (∀ w, Calls Try.prog 62 #[.int .i64 y] w fun e w' => e = .returned (.int .i64 B) ∧ w = w')) (az : Hid (∀ w, Calls Try.prog 62 #[.int .i64 z] w fun e w' => e = .returned (.int .i64 E) ∧ w = w'))
    (qx : (16384 * x).tdiv (A + B + E) = U) (qy : (16384 * y).tdiv (A + B + E) = V) (bU : -16384 ≤ U ∧ U ≤ 16384) (bV : -16384 ≤ V ∧ V ≤ 16384)
    (fo : Hid (∀ (p q : Nat) (w : World), w.cell? ⟨p, 0, none⟩ = some (.int .i64 x) → w.cell? ⟨q, 0, none⟩ = some (.int .i64 y) → Calls Try.prog 63 #[.int .i64 U, .int .i64 V, .func (.func 98) #[] #[.pointer (some ⟨p, 0, none⟩)], .func (.func 98) #[] #[.pointer (some ⟨q, 0, none⟩)]] w fun e w' => e = .returned (.tuple #[.int .i64 U2, .int .i64 V2]) ∧ w = w'))
    (bU2 : -16384 ≤ U2 ∧ U2 ≤ 16384) (bV2 : -16384 ≤ V2 ∧ V2 ≤ 16384)
    (jn : Hid (∀ w, Calls Try.prog 68 #[.int .i64 (U2 + 16384), .int .i64 (V2 + 16384)] w fun e w' => e = .returned (.int .u32 c) ∧ w = w')) : Calls Try.prog 20 #[(.agg #[.int .i64 x, .int .i64 y, .int .i64 z])] w fun e w' => e = .returned (.tuple #[.int .u32 c, .int .i64 0]) ∧ Below w.heap.size w w' := by
  have wU : wrap64 U = U := IntWalk.wrap64_in _ (by omega)
  have wV : wrap64 V = V := IntWalk.wrap64_in _ (by omega)
  go_enter Try.func20, Try.ntmps20
  go_wp2_with (fail)
  obtain ⟨W0, hW⟩ : ∃ W0, W0 = (w.alloc (.cells #[.int .i64 x, .int .i64 y, .int .i64 z] 24)) := ⟨_, rfl⟩
  have hB0 : Below w.heap.size w W0 := hW ▸ (Below.al (Below.refl _ _))
  have HD : Hid (Own w.heap.size [.int .i64 x, .int .i64 y, .int .i64 z] W0) := Lib.hid (hW ▸ (Own.newAt (by simp)))
  rw [← hW]
  clear hW
  obtain ⟨D, eD⟩ : ∃ X, X = w.heap.size := ⟨_, rfl⟩
  rw [← eD] at HD ⊢
  have Dw : w.heap.size ≤ D := by omega
  clear eD
  go_at_call 22; refine (my.out _).mono ?_; rintro e w1 ⟨rfl, hb⟩
  replace HD := Lib.hid (HD.out.later hb)
  have hB := Below.go hB0 hb
  clear hb hB0
  have oD := HD.out
  have D0 := oD.at 0 _ rfl
  have D1 := oD.at 1 _ rfl
  have D2 := oD.at 2 _ rfl
  have Dl := oD.lt
  clear oD
  go_wp2_with (fail)
  go_quiet (first | (go_at_call 62; with_reducible exact qEq ax.out) | (go_at_call 62; with_reducible exact qEq ay.out) | (go_at_call 62; with_reducible exact qEq az.out))
  go_wp2_with (fail)
  go_quiet (fail)
  go_wp2_with (fail)
  have hBW : ∀ n, Below w1.heap.size w1 (w1.drewN n) := fun n => below_drewN (Below.refl _ _) _
  generalize hW : w1.drewN _ = W6
  have hb6 : Below w1.heap.size w1 W6 := hW ▸ hBW _
  replace HD := Lib.hid (HD.out.later hb6)
  have hB6 : Below w.heap.size w W6 := Below.go hB hb6
  clear D0 D1 D2 Dl hW hb6 hBW hB
  have hBd : Below W6.heap.size W6 W6.drew := (Below.refl _ _).drew
  have SH : Hid (∀ w', Below W6.heap.size W6 w' → w'.cell? ⟨D, 0, none⟩ = some (.int .i64 x) ∧ w'.cell? ⟨D, 1, none⟩ = some (.int .i64 y)) := Lib.hid fun w' hb => ⟨(HD.out.later hb).at 0 _ rfl, (HD.out.later hb).at 1 _ rfl⟩
  have sx := sign_own x
  have sy := sign_own y
  go_region_held3 (fun w' => w'.cell? ⟨D, 0, none⟩ = some (.int .i64 x) ∧ w'.cell? ⟨D, 1, none⟩ = some (.int .i64 y)) (exact SH.out _ (by assumption)) (first | (go_at_call 64; (with_reducible refine (sx _).mono ?_); rintro e w2 ⟨rfl, o1, h1⟩; have b2 : Below W6.heap.size W6 w2 := Below.go hBd h1; clear h1) | (go_at_call 64; (with_reducible refine (sy _).mono ?_); rintro e w3 ⟨rfl, o2, h1⟩; have b3 : Below W6.heap.size W6 w3 := Below.go b2 h1; replace o1 := o1.later h1; clear h1) | (go_at_call 63; refine (fo.out _ _ _ (o1.at 0 _ rfl) (o2.at 0 _ rfl)).mono ?_; rintro e w4 ⟨rfl, h4⟩; subst h4))
  have hB := Below.go hB6 b3
  clear hB6 b3 b2 hBd SH sx sy o1 o2 HD fo my ax ay az
  go_wp2_with (first | (go_at_call 68; refine (jn.out _).mono ?_; rintro e w5 ⟨rfl, rfl⟩))
  go_ret2
  exact ⟨rfl, hB⟩

set_option maxHeartbeats 4000000 in
theorem REncode_hi (x y z A B E S T U V c : Int) (bA : 0 ≤ A ∧ A ≤ 16384) (bB : 0 ≤ B ∧ B ≤ 16384) (bE : 0 ≤ E ∧ E ≤ 16384) (bS : 1 ≤ A + B + E) (bx : -16384 ≤ x ∧ x ≤ 16384) (by_ : -16384 ≤ y ∧ y ≤ 16384) (bz : -16384 ≤ z ∧ z ≤ 16384) (hz : 0 ≤ z) (w : World) (my : Hid (∀ w, Calls Try.prog 23 #[(.agg #[.int .i64 x, .int .i64 y, .int .i64 z])] w fun e w' => e = .returned (.bool true) ∧ Below w.heap.size w w'))
    (ax : Hid (∀ w, Calls Try.prog 65 #[.int .i64 x] w fun e w' => e = .returned (.int .i64 A) ∧ w = w')) (ay : Hid (∀ w, Calls Try.prog 65 #[.int .i64 y] w fun e w' => e = .returned (.int .i64 B) ∧ w = w')) (az : Hid (∀ w, Calls Try.prog 65 #[.int .i64 z] w fun e w' => e = .returned (.int .i64 E) ∧ w = w')) (sx : Hid (∀ w, Calls Try.prog 66 #[.int .i64 x] w fun e w' => e = .returned (.int .i64 S) ∧ w = w')) (sy : Hid (∀ w, Calls Try.prog 66 #[.int .i64 y] w fun e w' => e = .returned (.int .i64 T) ∧ w = w'))
    (qx : wrap64 (S * (16384 * A / (A + B + E))) = U) (qy : wrap64 (T * (16384 * B / (A + B + E))) = V) (bU : -16384 ≤ U ∧ U ≤ 16384) (bV : -16384 ≤ V ∧ V ≤ 16384) (hc : (U + 16384) * 65536 + V + 16384 = c) (bc : 0 ≤ c ∧ c < 4294967296) : Calls Try.prog 21 #[(.agg #[.int .i64 x, .int .i64 y, .int .i64 z])] w fun e w' => e = .returned (.tuple #[.int .u32 c, .int .i64 0]) ∧ Below w.heap.size w w' := by
  have ec : c % 4294967296 = c := by omega
  go_enter Try.func21, Try.ntmps21
  go_wp2_with (fail)
  obtain ⟨W0, hW⟩ : ∃ W0, W0 = (w.alloc (.cells #[.int .i64 x, .int .i64 y, .int .i64 z] 24)) := ⟨_, rfl⟩
  have hB0 : Below w.heap.size w W0 := hW ▸ (Below.al (Below.refl _ _))
  have HD : Hid (Own w.heap.size [.int .i64 x, .int .i64 y, .int .i64 z] W0) := Lib.hid (hW ▸ (Own.newAt (by simp)))
  rw [← hW]
  clear hW
  obtain ⟨D, eD⟩ : ∃ X, X = w.heap.size := ⟨_, rfl⟩
  rw [← eD] at HD ⊢
  have Dw : w.heap.size ≤ D := by omega
  clear eD
  go_at_call 23; refine (my.out _).mono ?_; rintro e w1 ⟨rfl, hb⟩
  replace HD := Lib.hid (HD.out.later hb)
  have hB := Below.go hB0 hb
  clear hb hB0
  have oD := HD.out
  have D0 := oD.at 0 _ rfl
  have D1 := oD.at 1 _ rfl
  have D2 := oD.at 2 _ rfl
  have Dl := oD.lt
  clear oD
  go_wp2_with (fail)
  go_quiet (first | (go_at_call 65; with_reducible exact qEq ax.out) | (go_at_call 65; with_reducible exact qEq ay.out) | (go_at_call 65; with_reducible exact qEq az.out) | (go_at_call 66; with_reducible exact qEq sx.out) | (go_at_call 66; with_reducible exact qEq sy.out))
  go_wp2_with (fail)
  clear D0 D1 D2 Dl
  have hBW : ∀ n, Below w1.heap.size w1 (w1.drewN n) := fun n => below_drewN (Below.refl _ _) _
  generalize hW : w1.drewN _ = w2
  have hbn : Below w1.heap.size w1 w2 := hW ▸ hBW _
  replace hB := Below.go hB hbn
  replace HD := Lib.hid (HD.out.later hbn)
  clear hW hbn hBW
  have oD := HD.out
  have D0 := oD.at 0 _ rfl
  have D1 := oD.at 1 _ rfl
  have D2 := oD.at 2 _ rfl
  have Dl := oD.lt
  clear oD
  go_quiet (first | (go_at_call 65; with_reducible exact qEq ax.out) | (go_at_call 65; with_reducible exact qEq ay.out) | (go_at_call 65; with_reducible exact qEq az.out) | (go_at_call 66; with_reducible exact qEq sx.out) | (go_at_call 66; with_reducible exact qEq sy.out))
  go_wp2_with (fail)
  clear D0 D1 D2 Dl
  have hBW : ∀ n, Below w2.heap.size w2 (w2.drewN n) := fun n => below_drewN (Below.refl _ _) _
  generalize hW : w2.drewN _ = w3
  have hbn : Below w2.heap.size w2 w3 := hW ▸ hBW _
  replace hB := Below.go hB hbn
  replace HD := Lib.hid (HD.out.later hbn)
  clear hW hbn hBW
  have oD := HD.out
  have D0 := oD.at 0 _ rfl
  have D1 := oD.at 1 _ rfl
  have D2 := oD.at 2 _ rfl
  have Dl := oD.lt
  clear oD
  go_quiet (first | (go_at_call 65; with_reducible exact qEq ax.out) | (go_at_call 65; with_reducible exact qEq ay.out) | (go_at_call 65; with_reducible exact qEq az.out) | (go_at_call 66; with_reducible exact qEq sx.out) | (go_at_call 66; with_reducible exact qEq sy.out))
  go_wp2_with (fail)
  clear D0 D1 D2 Dl
  have hBW : ∀ n, Below w3.heap.size w3 (w3.drewN n) := fun n => below_drewN (Below.refl _ _) _
  generalize hW : w3.drewN _ = w4
  have hbn : Below w3.heap.size w3 w4 := hW ▸ hBW _
  replace hB := Below.go hB hbn
  replace HD := Lib.hid (HD.out.later hbn)
  clear hW hbn hBW
  have oD := HD.out
  have D0 := oD.at 0 _ rfl
  have D1 := oD.at 1 _ rfl
  have D2 := oD.at 2 _ rfl
  have Dl := oD.lt
  clear oD

  go_ret2
  exact ⟨rfl, (by repeat (first | (with_reducible exact Below.refl _ _) | (with_reducible assumption) | (with_reducible refine below_drewN ?_ _) | (with_reducible refine Below.drew ?_) | (with_reducible refine Below.alloc ?_ ?_ _) | (with_reducible refine Below.setCell ?_ ?_ _) | (with_reducible exact Nat.le_refl _) | exact Nat.le_succ _ | (simp; done) | (simp; omega) | omega | fail))⟩
set_option maxHeartbeats 4000000 in
theorem REncode_lo (x y z A B E S T U V A2 B2 U2 V2 c : Int) (bA : 0 ≤ A ∧ A ≤ 16384) (bB : 0 ≤ B ∧ B ≤ 16384) (bE : 0 ≤ E ∧ E ≤ 16384) (bS : 1 ≤ A + B + E) (bx : -16384 ≤ x ∧ x ≤ 16384) (by_ : -16384 ≤ y ∧ y ≤ 16384) (bz : -16384 ≤ z ∧ z ≤ 16384) (hz : z < 0) (w : World) (my : Hid (∀ w, Calls Try.prog 23 #[(.agg #[.int .i64 x, .int .i64 y, .int .i64 z])] w fun e w' => e = .returned (.bool true) ∧ Below w.heap.size w w'))
    (ax : Hid (∀ w, Calls Try.prog 65 #[.int .i64 x] w fun e w' => e = .returned (.int .i64 A) ∧ w = w')) (ay : Hid (∀ w, Calls Try.prog 65 #[.int .i64 y] w fun e w' => e = .returned (.int .i64 B) ∧ w = w')) (az : Hid (∀ w, Calls Try.prog 65 #[.int .i64 z] w fun e w' => e = .returned (.int .i64 E) ∧ w = w')) (sx : Hid (∀ w, Calls Try.prog 66 #[.int .i64 x] w fun e w' => e = .returned (.int .i64 S) ∧ w = w')) (sy : Hid (∀ w, Calls Try.prog 66 #[.int .i64 y] w fun e w' => e = .returned (.int .i64 T) ∧ w = w'))
    (qx : wrap64 (S * (16384 * A / (A + B + E))) = U) (qy : wrap64 (T * (16384 * B / (A + B + E))) = V) (bU : -16384 ≤ U ∧ U ≤ 16384) (bV : -16384 ≤ V ∧ V ≤ 16384)
    (au : Hid (∀ w, Calls Try.prog 65 #[.int .i64 U] w fun e w' => e = .returned (.int .i64 A2) ∧ w = w')) (av : Hid (∀ w, Calls Try.prog 65 #[.int .i64 V] w fun e w' => e = .returned (.int .i64 B2) ∧ w = w')) (bA2 : 0 ≤ A2 ∧ A2 ≤ 16384) (bB2 : 0 ≤ B2 ∧ B2 ≤ 16384) (qu : wrap64 (S * (16384 - B2)) = U2) (qv : wrap64 (T * (16384 - A2)) = V2)
    (bU2 : -16384 ≤ U2 ∧ U2 ≤ 16384) (bV2 : -16384 ≤ V2 ∧ V2 ≤ 16384) (hc : (U2 + 16384) * 65536 + V2 + 16384 = c) (bc : 0 ≤ c ∧ c < 4294967296) : Calls Try.prog 21 #[(.agg #[.int .i64 x, .int .i64 y, .int .i64 z])] w fun e w' => e = .returned (.tuple #[.int .u32 c, .int .i64 0]) ∧ Below w.heap.size w w' := by
  have ec : c % 4294967296 = c := by omega
  go_enter Try.func21, Try.ntmps21
  go_wp2_with (fail)
  obtain ⟨W0, hW⟩ : ∃ W0, W0 = (w.alloc (.cells #[.int .i64 x, .int .i64 y, .int .i64 z] 24)) := ⟨_, rfl⟩
  have hB0 : Below w.heap.size w W0 := hW ▸ (Below.al (Below.refl _ _))
  have HD : Hid (Own w.heap.size [.int .i64 x, .int .i64 y, .int .i64 z] W0) := Lib.hid (hW ▸ (Own.newAt (by simp)))
  rw [← hW]
  clear hW
  obtain ⟨D, eD⟩ : ∃ X, X = w.heap.size := ⟨_, rfl⟩
  rw [← eD] at HD ⊢
  have Dw : w.heap.size ≤ D := by omega
  clear eD
  go_at_call 23; refine (my.out _).mono ?_; rintro e w1 ⟨rfl, hb⟩
  replace HD := Lib.hid (HD.out.later hb)
  have hB := Below.go hB0 hb
  clear hb hB0
  have oD := HD.out
  have D0 := oD.at 0 _ rfl
  have D1 := oD.at 1 _ rfl
  have D2 := oD.at 2 _ rfl
  have Dl := oD.lt
  clear oD
  go_wp2_with (fail)
  go_quiet (first | (go_at_call 65; with_reducible exact qEq ax.out) | (go_at_call 65; with_reducible exact qEq ay.out) | (go_at_call 65; with_reducible exact qEq az.out) | (go_at_call 66; with_reducible exact qEq sx.out) | (go_at_call 66; with_reducible exact qEq sy.out))
  go_wp2_with (fail)
  clear D0 D1 D2 Dl
  have hBW : ∀ n, Below w1.heap.size w1 (w1.drewN n) := fun n => below_drewN (Below.refl _ _) _
  generalize hW : w1.drewN _ = w2
  have hbn : Below w1.heap.size w1 w2 := hW ▸ hBW _
  replace hB := Below.go hB hbn
  replace HD := Lib.hid (HD.out.later hbn)
  clear hW hbn hBW
  have oD := HD.out
  have D0 := oD.at 0 _ rfl
  have D1 := oD.at 1 _ rfl
  have D2 := oD.at 2 _ rfl
  have Dl := oD.lt
  clear oD
  go_quiet (first | (go_at_call 65; with_reducible exact qEq ax.out) | (go_at_call 65; with_reducible exact qEq ay.out) | (go_at_call 65; with_reducible exact qEq az.out) | (go_at_call 66; with_reducible exact qEq sx.out) | (go_at_call 66; with_reducible exact qEq sy.out))
  go_wp2_with (fail)
  clear D0 D1 D2 Dl
  have hBW : ∀ n, Below w2.heap.size w2 (w2.drewN n) := fun n => below_drewN (Below.refl _ _) _
  generalize hW : w2.drewN _ = w3
  have hbn : Below w2.heap.size w2 w3 := hW ▸ hBW _
  replace hB := Below.go hB hbn
  replace HD := Lib.hid (HD.out.later hbn)
  clear hW hbn hBW
  have oD := HD.out
  have D0 := oD.at 0 _ rfl
  have D1 := oD.at 1 _ rfl
  have D2 := oD.at 2 _ rfl
  have Dl := oD.lt
  clear oD
  go_quiet (first | (go_at_call 65; with_reducible exact qEq ax.out) | (go_at_call 65; with_reducible exact qEq ay.out) | (go_at_call 65; with_reducible exact qEq az.out) | (go_at_call 66; with_reducible exact qEq sx.out) | (go_at_call 66; with_reducible exact qEq sy.out))
  go_wp2_with (fail)
  clear D0 D1 D2 Dl
  have hBW : ∀ n, Below w3.heap.size w3 (w3.drewN n) := fun n => below_drewN (Below.refl _ _) _
  generalize hW : w3.drewN _ = w4
  have hbn : Below w3.heap.size w3 w4 := hW ▸ hBW _
  replace hB := Below.go hB hbn
  replace HD := Lib.hid (HD.out.later hbn)
  clear hW hbn hBW
  have oD := HD.out
  have D0 := oD.at 0 _ rfl
  have D1 := oD.at 1 _ rfl
  have D2 := oD.at 2 _ rfl
  have Dl := oD.lt
  clear oD

  go_wp2_with (first | (go_at_call 66; refine (sx.out _).mono ?_; rintro e w5 ⟨rfl, rfl⟩) | (go_at_call 66; refine (sy.out _).mono ?_; rintro e w5 ⟨rfl, rfl⟩) | (go_at_call 65; refine (au.out _).mono ?_; rintro e w5 ⟨rfl, rfl⟩) | (go_at_call 65; refine (av.out _).mono ?_; rintro e w5 ⟨rfl, rfl⟩))
  go_ret2
  exact ⟨rfl, (by repeat (first | (with_reducible exact Below.refl _ _) | (with_reducible assumption) | (with_reducible refine below_drewN ?_ _) | (with_reducible refine Below.drew ?_) | (with_reducible refine Below.alloc ?_ ?_ _) | (with_reducible refine Below.setCell ?_ ?_ _) | (with_reducible exact Nat.le_refl _) | exact Nat.le_succ _ | (simp; done) | (simp; omega) | omega | fail))⟩

/-- a part of the sum of the sizes, rounded toward 0 -/
def qI (x L : Int) : Int := sgnI x (16384 * absI x / L)
def encL (x y z : Int) : Int := absI x + absI y + absI z
def encU (x y z : Int) : Int := if z < 0 then sgnI x (16384 - absI (qI y (encL x y z))) else qI x (encL x y z)
def encV (x y z : Int) : Int := if z < 0 then sgnI y (16384 - absI (qI x (encL x y z))) else qI y (encL x y z)
def encC (x y z : Int) : Int := (encU x y z + 16384) * 65536 + (encV x y z + 16384)
theorem sgnI_bd (x k c : Int) (h : 0 ≤ k ∧ k ≤ c) : -c ≤ sgnI x k ∧ sgnI x k ≤ c := by unfold sgnI; split <;> omega
theorem tdiv_q (x L : Int) (hL : 1 ≤ L) : (16384 * x).tdiv L = qI x L := by
  unfold qI sgnI absI
  split
  · rw [show 16384 * x = -(16384 * -x) by omega, Int.neg_tdiv, Int.tdiv_eq_ediv_of_nonneg (by omega)]
  · rw [Int.tdiv_eq_ediv_of_nonneg (by omega)]
theorem oq_bd (a L : Int) (ha : 0 ≤ a) (h : a ≤ L) (hL : 1 ≤ L) : 0 ≤ 16384 * a / L ∧ 16384 * a / L ≤ 16384 :=
  ⟨Int.ediv_nonneg (by omega) (by omega), Int.ediv_le_of_le_mul (by omega) (Int.mul_le_mul_of_nonneg_left h (by decide))⟩
theorem absI_sgn (x k : Int) (h : 0 ≤ k) : absI (sgnI x k) = k := by unfold absI sgnI; split <;> split <;> omega
theorem enc_bd (x y z : Int) (h : dirB x y z = true) : (-16384 ≤ encU x y z ∧ encU x y z ≤ 16384) ∧ (-16384 ≤ encV x y z ∧ encV x y z ≤ 16384) ∧ 1 ≤ encL x y z ∧ absI x ≤ encL x y z ∧ absI y ≤ encL x y z := by
  obtain ⟨h0, hx, hy, hz⟩ := (dirB_iff x y z).1 h
  have bA := absI_bd x 16384 hx
  have bB := absI_bd y 16384 hy
  have bE := absI_bd z 16384 hz
  have bL : 1 ≤ encL x y z := by unfold encL absI; split <;> split <;> split <;> omega
  have lx : absI x ≤ encL x y z := by unfold encL; omega
  have ly : absI y ≤ encL x y z := by unfold encL; omega
  have qx := oq_bd (absI x) _ bA.1 lx bL
  have qy := oq_bd (absI y) _ bB.1 ly bL
  refine ⟨?_, ?_, bL, lx, ly⟩
  · unfold encU
    split
    · exact sgnI_bd _ _ _ (by unfold qI; rw [absI_sgn _ _ qy.1]; omega)
    · exact sgnI_bd _ _ _ qx
  · unfold encV
    split
    · exact sgnI_bd _ _ _ (by unfold qI; rw [absI_sgn _ _ qx.1]; omega)
    · exact sgnI_bd _ _ _ qy
theorem OEncode_any (x y z : Int) (h : dirB x y z = true) (w : World) : Calls Try.prog 20 #[(.agg #[.int .i64 x, .int .i64 y, .int .i64 z])] w fun e w' => e = .returned (.tuple #[.int .u32 (encC x y z), .int .i64 0]) ∧ Below w.heap.size w w' := by
  obtain ⟨bU, bV, bL, lx, ly⟩ := enc_bd x y z h
  obtain ⟨h0, hx, hy, hz⟩ := (dirB_iff x y z).1 h
  have bA := absI_bd x 16384 hx
  have bB := absI_bd y 16384 hy
  have bE := absI_bd z 16384 hz
  have qx := oq_bd (absI x) _ bA.1 lx bL
  have qy := oq_bd (absI y) _ bB.1 ly bL
  have bX : -16384 ≤ qI x (encL x y z) ∧ qI x (encL x y z) ≤ 16384 := sgnI_bd _ _ _ qx
  have bY : -16384 ≤ qI y (encL x y z) ∧ qI y (encL x y z) ≤ 16384 := sgnI_bd _ _ _ qy
  have my := OMay_any x y z
  rw [h] at my
  have jn := join_any (encU x y z + 16384) (encV x y z + 16384) (by omega) (by omega) (by omega) (by omega)
  by_cases s : z < 0
  · have fo := fun p q w hp hq => fold_any (qI x (encL x y z)) (qI y (encL x y z)) x y p q bX bY w hp hq
    refine OEncode_lo x y z (absI x) (absI y) (absI z) (qI x (encL x y z)) (qI y (encL x y z)) (encU x y z) (encV x y z) _ bA bB bE bL hx hy hz s w (Lib.hid my) (Lib.hid (oabs_any x (by omega) (by omega))) (Lib.hid (oabs_any y (by omega) (by omega))) (Lib.hid (oabs_any z (by omega) (by omega)))
      (tdiv_q _ _ bL) (tdiv_q _ _ bL) bX bY (Lib.hid ?_) bU bV (Lib.hid jn)
    unfold encU encV
    rw [if_pos s, if_pos s]
    exact fo
  · have eU : encU x y z = qI x (encL x y z) := by unfold encU; rw [if_neg s]
    have eV : encV x y z = qI y (encL x y z) := by unfold encV; rw [if_neg s]
    rw [eU, eV] at jn
    unfold encC
    rw [eU, eV]
    exact OEncode_hi x y z (absI x) (absI y) (absI z) (qI x (encL x y z)) (qI y (encL x y z)) _ bA bB bE bL hx hy hz (by omega) w (Lib.hid my) (Lib.hid (oabs_any x (by omega) (by omega))) (Lib.hid (oabs_any y (by omega) (by omega))) (Lib.hid (oabs_any z (by omega) (by omega)))
      (tdiv_q _ _ bL) (tdiv_q _ _ bL) bX bY (Lib.hid jn)
theorem OEncode_none (x y z : Int) (h : dirB x y z = false) (w : World) : Calls Try.prog 20 #[(.agg #[.int .i64 x, .int .i64 y, .int .i64 z])] w fun e w' => e = .returned (.tuple #[.int .u32 0, .int .i64 2]) ∧ Below w.heap.size w w' :=
  OEncode_no x y z w (Lib.hid (h ▸ OMay_any x y z))
theorem REncode_any (x y z : Int) (h : dirB x y z = true) (w : World) : Calls Try.prog 21 #[(.agg #[.int .i64 x, .int .i64 y, .int .i64 z])] w fun e w' => e = .returned (.tuple #[.int .u32 (encC x y z), .int .i64 0]) ∧ Below w.heap.size w w' := by
  obtain ⟨bU, bV, bL, lx, ly⟩ := enc_bd x y z h
  obtain ⟨h0, hx, hy, hz⟩ := (dirB_iff x y z).1 h
  have bA := absI_bd x 16384 hx
  have bB := absI_bd y 16384 hy
  have bE := absI_bd z 16384 hz
  have qx := oq_bd (absI x) _ bA.1 lx bL
  have qy := oq_bd (absI y) _ bB.1 ly bL
  have bX : -16384 ≤ qI x (encL x y z) ∧ qI x (encL x y z) ≤ 16384 := sgnI_bd _ _ _ qx
  have bY : -16384 ≤ qI y (encL x y z) ∧ qI y (encL x y z) ≤ 16384 := sgnI_bd _ _ _ qy
  have my := RMay_any x y z
  rw [h] at my
  have mx : wrap64 (sgnI x 1 * (16384 * absI x / (absI x + absI y + absI z))) = qI x (encL x y z) := by rw [sgn_mul _ _ (by unfold encL at qx; omega)]; rfl
  have mY : wrap64 (sgnI y 1 * (16384 * absI y / (absI x + absI y + absI z))) = qI y (encL x y z) := by rw [sgn_mul _ _ (by unfold encL at qy; omega)]; rfl
  have cc : (encU x y z + 16384) * 65536 + encV x y z + 16384 = encC x y z := by unfold encC; omega
  have cb : 0 ≤ encC x y z ∧ encC x y z < 4294967296 := by unfold encC; omega
  by_cases s : z < 0
  · have aX := absI_bd _ 16384 bX
    have aY := absI_bd _ 16384 bY
    refine REncode_lo x y z (absI x) (absI y) (absI z) (sgnI x 1) (sgnI y 1) (qI x (encL x y z)) (qI y (encL x y z)) (absI (qI x (encL x y z))) (absI (qI y (encL x y z))) (encU x y z) (encV x y z) _ bA bB bE bL hx hy hz s w (Lib.hid my) (Lib.hid (RAbs_any x (by omega) (by omega))) (Lib.hid (RAbs_any y (by omega) (by omega))) (Lib.hid (RAbs_any z (by omega) (by omega))) (Lib.hid (Rsign_any x)) (Lib.hid (Rsign_any y))
      mx mY bX bY (Lib.hid (RAbs_any _ (by omega) (by omega))) (Lib.hid (RAbs_any _ (by omega) (by omega))) aX aY ?_ ?_ bU bV cc cb
    · rw [sgn_mul _ _ (by omega)]; unfold encU; rw [if_pos s]
    · rw [sgn_mul _ _ (by omega)]; unfold encV; rw [if_pos s]
  · have eU : encU x y z = qI x (encL x y z) := by unfold encU; rw [if_neg s]
    have eV : encV x y z = qI y (encL x y z) := by unfold encV; rw [if_neg s]
    rw [eU, eV] at cc
    exact REncode_hi x y z (absI x) (absI y) (absI z) (sgnI x 1) (sgnI y 1) (qI x (encL x y z)) (qI y (encL x y z)) _ bA bB bE bL hx hy hz (by omega) w (Lib.hid my) (Lib.hid (RAbs_any x (by omega) (by omega))) (Lib.hid (RAbs_any y (by omega) (by omega))) (Lib.hid (RAbs_any z (by omega) (by omega))) (Lib.hid (Rsign_any x)) (Lib.hid (Rsign_any y))
      mx mY bX bY cc cb
theorem REncode_none (x y z : Int) (h : dirB x y z = false) (w : World) : Calls Try.prog 21 #[(.agg #[.int .i64 x, .int .i64 y, .int .i64 z])] w fun e w' => e = .returned (.tuple #[.int .u32 0, .int .i64 2]) ∧ Below w.heap.size w w' :=
  REncode_no x y z w (Lib.hid (h ▸ RMay_any x y z))
end Go.Proofs.Ytgggngcgcpmkbaa
