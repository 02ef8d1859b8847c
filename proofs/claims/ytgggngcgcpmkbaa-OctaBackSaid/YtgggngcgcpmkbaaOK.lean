/- umbralaw05.OctaBack: the walk. -/
import Derived.Test.YtgggngcgcpmkbaaOJ
import Derived.Test.YtgggngcgcpmkbaaOG
import Derived.Deep.DeepCutAuto
import Derived.Deep.RegionHeld3
namespace Go.Proofs.Ytgggngcgcpmkbaa
set_option linter.unusedVariables false
set_option maxRecDepth 2000
set_option linter.unusedSimpArgs false
open Go.RowKit
attribute [local go_sem] setCell_twice setCell_pair
attribute [local go_sem ↓] eqPt neqPt
theorem below_eq {P : Program} {k : Nat} {ar : Array Value} {w : World} {v : Value} (h : Calls P k ar w fun e w' => e = .returned v ∧ w = w') : Calls P k ar w fun e w' => e = .returned v ∧ Below w.heap.size w w' :=
  h.mono fun _ _ ⟨a, b⟩ => ⟨a, b ▸ Below.refl _ _⟩

set_option maxHeartbeats 4000000 in
theorem Back_core (x X Y Z A B E c U V T : Int) (hs : A + B + E = 16384) (bA : 0 ≤ A ∧ A ≤ 16384) (bB : 0 ≤ B ∧ B ≤ 16384) (bE : 0 ≤ E ∧ E ≤ 16384) (w : World)
    (d1 : Hid (∀ w, Calls Try.prog 15 #[.int .u32 x] w fun e w' => e = .returned (.agg #[.int .i64 X, .int .i64 Y, .int .i64 Z]) ∧ Below w.heap.size w w')) (my : Hid (∀ w, Calls Try.prog 22 #[(.agg #[.int .i64 X, .int .i64 Y, .int .i64 Z])] w fun e w' => e = .returned (.bool true) ∧ Below w.heap.size w w'))
    (ax : Hid (∀ w, Calls Try.prog 30 #[.int .i64 X] w fun e w' => e = .returned (.int .i64 A) ∧ Below w.heap.size w w')) (ay : Hid (∀ w, Calls Try.prog 30 #[.int .i64 Y] w fun e w' => e = .returned (.int .i64 B) ∧ Below w.heap.size w w')) (az : Hid (∀ w, Calls Try.prog 30 #[.int .i64 Z] w fun e w' => e = .returned (.int .i64 E) ∧ Below w.heap.size w w'))
    (en : Hid (∀ w, Calls Try.prog 20 #[(.agg #[.int .i64 X, .int .i64 Y, .int .i64 Z])] w fun e w' => e = .returned (.tuple #[.int .u32 c, .int .i64 0]) ∧ Below w.heap.size w w')) (d2 : Hid (∀ w, Calls Try.prog 15 #[.int .u32 c] w fun e w' => e = .returned (.agg #[.int .i64 X, .int .i64 Y, .int .i64 Z]) ∧ Below w.heap.size w w'))
    (pk : Hid (∀ w, Calls Try.prog 17 #[.int .u32 x] w fun e w' => e = .returned (.agg #[.int .i64 U, .int .i64 V, .int .i64 T]) ∧ Below w.heap.size w w')) (mp : Hid (∀ w, Calls Try.prog 22 #[(.agg #[.int .i64 U, .int .i64 V, .int .i64 T])] w fun e w' => e = .returned (.bool true) ∧ Below w.heap.size w w'))
    (wk : Hid (∀ w, Calls Try.prog 19 #[] w fun e w' => e = .returned (.bool true) ∧ Below w.heap.size w w')) :
    Calls Try.prog 6 #[.int .u32 x] w fun e w' => e = .returned (.bool true) ∧ Below w.heap.size w w' := by
  have e1 := eqT_self X Y Z
  have hw1 : IntKind.i64.wrap (A + B) = A + B := by rw [IntKind.wrap_i64]; omega
  have hw2 : IntKind.i64.wrap (A + B + E) = 16384 := by rw [IntKind.wrap_i64]; omega
  go_enter Try.func6, Try.ntmps6
  go_wp2_with (fail)
  go_at_call 15; refine (d1.out _).mono ?_; rintro e w1 ⟨rfl, hB1⟩
  go_upto_region 2 with fail
  obtain ⟨W2, hW⟩ : ∃ W2, W2 = (w1.alloc (.cells #[.int .i64 X, .int .i64 Y, .int .i64 Z] 24)) := ⟨_, rfl⟩
  have hq : Below w1.heap.size w1 W2 := hW ▸ (Below.al (Below.refl _ _))
  have HD : Hid (Own w1.heap.size [.int .i64 X, .int .i64 Y, .int .i64 Z] W2) := Lib.hid (hW ▸ (Own.newAt (by simp)))
  rw [← hW]
  clear hW
  obtain ⟨D, eD⟩ : ∃ X, X = w1.heap.size := ⟨_, rfl⟩
  rw [← eD] at HD ⊢
  have Dw : w1.heap.size ≤ D := by omega
  clear eD
  have hB2 : Below w.heap.size w W2 := Below.go hB1 hq
  clear hq hB1 Dw
  have hBd : Below W2.heap.size W2 W2.drew := (Below.refl _ _).drew
  have SH : Hid (∀ w', Below W2.heap.size W2 w' → w'.cell? ⟨D, 0, none⟩ = some (.int .i64 X) ∧ w'.cell? ⟨D, 1, none⟩ = some (.int .i64 Y) ∧ w'.cell? ⟨D, 2, none⟩ = some (.int .i64 Z)) := Lib.hid fun w' hb => ⟨(HD.out.later hb).at 0 _ rfl, (HD.out.later hb).at 1 _ rfl, (HD.out.later hb).at 2 _ rfl⟩
  go_region_held3 (fun w' => w'.cell? ⟨D, 0, none⟩ = some (.int .i64 X) ∧ w'.cell? ⟨D, 1, none⟩ = some (.int .i64 Y) ∧ w'.cell? ⟨D, 2, none⟩ = some (.int .i64 Z)) (first | exact SH.out _ (by assumption) | exact SH.out _ (Below.al (by assumption))) (first | (go_at_call 22; (with_reducible refine (my.out _).mono ?_); rintro e w3 ⟨rfl, h1⟩; have bw3 : Below W2.heap.size W2 w3 := Below.go hBd h1; clear h1) | (go_at_call 30; (with_reducible refine (ax.out _).mono ?_); rintro e w4 ⟨rfl, h1⟩; have bw4 : Below W2.heap.size W2 w4 := Below.go bw3 h1; clear h1) | (go_at_call 30; (with_reducible refine (ay.out _).mono ?_); rintro e w5 ⟨rfl, h1⟩; have bw5 : Below W2.heap.size W2 w5 := Below.go bw4 h1; clear h1) | (go_at_call 30; (with_reducible refine (az.out _).mono ?_); rintro e w6 ⟨rfl, h1⟩; have bw6 : Below W2.heap.size W2 w6 := Below.go bw5 h1; clear h1))
  replace HD := Lib.hid (HD.out.later bw6)
  have hB6 := Below.go hB2 bw6
  clear hB2 hBd bw3 bw4 bw5 bw6 SH my ax ay az d1
  have oD := HD.out
  have D0 := oD.at 0 _ rfl
  have D1 := oD.at 1 _ rfl
  have D2 := oD.at 2 _ rfl
  have Dl := oD.lt
  clear oD
  go_wp2_with (fail)
  go_at_call 20; refine (en.out _).mono ?_; rintro e w7 ⟨rfl, hb⟩
  replace HD := Lib.hid (HD.out.later hb)
  have hB7 := Below.go hB6 hb
  clear hb hB6 D0 D1 D2 Dl en
  go_wp2_with (fail)
  have hBd : Below w7.heap.size w7 w7.drew := (Below.refl _ _).drew
  have SH : Hid (∀ w', Below w7.heap.size w7 w' → w'.cell? ⟨D, 0, none⟩ = some (.int .i64 X) ∧ w'.cell? ⟨D, 1, none⟩ = some (.int .i64 Y) ∧ w'.cell? ⟨D, 2, none⟩ = some (.int .i64 Z)) := Lib.hid fun w' hb => ⟨(HD.out.later hb).at 0 _ rfl, (HD.out.later hb).at 1 _ rfl, (HD.out.later hb).at 2 _ rfl⟩
  go_region_held3 (fun w' => w'.cell? ⟨D, 0, none⟩ = some (.int .i64 X) ∧ w'.cell? ⟨D, 1, none⟩ = some (.int .i64 Y) ∧ w'.cell? ⟨D, 2, none⟩ = some (.int .i64 Z)) (first | exact SH.out _ (by assumption) | exact SH.out _ (Below.al (by assumption))) (first | (go_at_call 15; (with_reducible refine (d2.out _).mono ?_); rintro e w8 ⟨rfl, h1⟩; have bw8 : Below w7.heap.size w7 w8 := Below.go hBd h1; clear h1) | (go_at_call 17; (with_reducible refine (pk.out _).mono ?_); rintro e w9 ⟨rfl, h1⟩; have bw9 : Below w7.heap.size w7 w9 := Below.go bw8 h1; clear h1) | (go_at_call 22; (with_reducible refine (mp.out _).mono ?_); rintro e wa ⟨rfl, h1⟩; have bwa : Below w7.heap.size w7 wa := Below.go bw9 h1; clear h1) | (go_at_call 19; (with_reducible refine (wk.out _).mono ?_); rintro e wb ⟨rfl, h1⟩; have bwb : Below w7.heap.size w7 wb := Below.go bwa h1; clear h1))
  have hBB := Below.go hB7 bwb
  clear hB7 hBd bw8 bw9 bwa bwb SH HD d2 pk mp wk
  go_wp2
  go_ret
  exact ⟨rfl, hBB⟩
theorem decV_oct (x : Int) (h0 : 0 ≤ x) (h1 : x < 4294967296) : ∃ X Y Z : Int, decV x = (.agg #[.int .i64 X, .int .i64 Y, .int .i64 Z]) ∧ absI X + absI Y + absI Z = 16384 :=
  ⟨_, _, _, rfl, dec_oct _ _ (mid_bd _ (by omega)) (mid_bd _ (by omega))⟩
theorem Back_walk (x : Int) (h0 : 0 ≤ x) (h1 : x < 4294967296) (w : World) : Calls Try.prog 6 #[.int .u32 x] w fun e w' => e = .returned (.bool true) ∧ Below w.heap.size w w' := by
  obtain ⟨X, Y, Z, e, hs⟩ := decV_oct x h0 h1
  have c := pickC_bd x h0 h1
  obtain ⟨U, V, T, e2, hs2⟩ := decV_oct (pickC x) c.1 c.2
  have hd := oct_dir X Y Z hs
  have hd2 := oct_dir U V T hs2
  obtain ⟨_, _, hc0, hc1⟩ := mid_enc X Y Z hd
  obtain ⟨_, bx, b_y, bz⟩ := (dirB_iff X Y Z).1 hd
  have d2 := fun w => ODecode_any (encC X Y Z) hc0 hc1 w
  rw [oct_back X Y Z hs] at d2
  exact Back_core x X Y Z (absI X) (absI Y) (absI Z) (encC X Y Z) U V T hs (absI_bd _ _ bx) (absI_bd _ _ b_y) (absI_bd _ _ bz) w (Lib.hid fun w => e ▸ ODecode_any x h0 h1 w) (Lib.hid fun w => hd ▸ OMay_any X Y Z w)
    (Lib.hid fun w => below_eq (lawabs_any X (by omega) (by omega) w)) (Lib.hid fun w => below_eq (lawabs_any Y (by omega) (by omega) w)) (Lib.hid fun w => below_eq (lawabs_any Z (by omega) (by omega) w))
    (Lib.hid fun w => OEncode_any X Y Z hd w) (Lib.hid d2) (Lib.hid fun w => e2 ▸ OPick_any x h0 h1 w) (Lib.hid fun w => hd2 ▸ OMay_any U V T w) (Lib.hid works_any5)
end Go.Proofs.Ytgggngcgcpmkbaa
