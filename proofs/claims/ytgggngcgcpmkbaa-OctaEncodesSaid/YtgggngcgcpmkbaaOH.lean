/- umbralaw05.OctaEncodes: the walk. -/
import Derived.Test.YtgggngcgcpmkbaaOG
import Derived.Deep.DeepCutAuto
import Derived.Deep.RegionHeld3
namespace Go.Proofs.Ytgggngcgcpmkbaa
set_option linter.unusedVariables false
set_option maxRecDepth 2000
set_option linter.unusedSimpArgs false
open Go.RowKit
attribute [local go_sem] setCell_twice setCell_pair
attribute [local go_sem ↓] eqPt neqPt

set_option maxHeartbeats 4000000 in
theorem Encodes_core (x y z c er : Int) (b : Bool) (he : wrap64 er = er) (w : World)
    (oe : Hid (∀ w, Calls Try.prog 20 #[(.agg #[.int .i64 x, .int .i64 y, .int .i64 z])] w fun e w' => e = .returned (.tuple #[.int .u32 c, .int .i64 er]) ∧ Below w.heap.size w w')) (re : Hid (∀ w, Calls Try.prog 21 #[(.agg #[.int .i64 x, .int .i64 y, .int .i64 z])] w fun e w' => e = .returned (.tuple #[.int .u32 c, .int .i64 er]) ∧ Below w.heap.size w w'))
    (om : Hid (∀ w, Calls Try.prog 22 #[(.agg #[.int .i64 x, .int .i64 y, .int .i64 z])] w fun e w' => e = .returned (.bool b) ∧ Below w.heap.size w w')) (rm : Hid (∀ w, Calls Try.prog 23 #[(.agg #[.int .i64 x, .int .i64 y, .int .i64 z])] w fun e w' => e = .returned (.bool b) ∧ Below w.heap.size w w'))
    (wk : Hid (∀ w, Calls Try.prog 19 #[] w fun e w' => e = .returned (.bool true) ∧ Below w.heap.size w w')) :
    Calls Try.prog 4 #[(.agg #[.int .i64 x, .int .i64 y, .int .i64 z])] w fun e w' => e = .returned (.bool true) ∧ Below w.heap.size w w' := by
  go_enter Try.func4, Try.ntmps4
  go_wp2_with (fail)
  obtain ⟨W0, hW⟩ : ∃ W0, W0 = (w.alloc (.cells #[.int .i64 x, .int .i64 y, .int .i64 z] 24)) := ⟨_, rfl⟩
  have hB0 : Below w.heap.size w W0 := hW ▸ (Below.al (Below.refl _ _))
  have HD : Hid (Own w.heap.size [.int .i64 x, .int .i64 y, .int .i64 z] W0) := Lib.hid (hW ▸ (Own.newAt (by simp)))
  rw [← hW]
  clear hW
  obtain ⟨D, eD⟩ : ∃ X, X = w.heap.size := ⟨_, rfl⟩
  rw [← eD] at HD ⊢
  have Dw : w.heap.size ≤ D := by omega
  clear eD
  go_at_call 20; refine (oe.out _).mono ?_; rintro e w1 ⟨rfl, hb⟩
  replace HD := Lib.hid (HD.out.later hb)
  have hB1 := Below.go hB0 hb
  clear hb hB0
  have oD := HD.out
  have D0 := oD.at 0 _ rfl
  have D1 := oD.at 1 _ rfl
  have D2 := oD.at 2 _ rfl
  have Dl := oD.lt
  clear oD
  go_wp2_with (fail)
  clear D0 D1 D2 Dl
  go_at_call 21; refine (re.out _).mono ?_; rintro e w2 ⟨rfl, hb⟩
  replace HD := Lib.hid (HD.out.later hb)
  have hB2 := Below.go hB1 hb
  clear hb hB1
  go_wp2_with (fail)
  have hBd : Below w2.heap.size w2 w2.drew := (Below.refl _ _).drew
  have SH : Hid (∀ w', Below w2.heap.size w2 w' → w'.cell? ⟨D, 0, none⟩ = some (.int .i64 x) ∧ w'.cell? ⟨D, 1, none⟩ = some (.int .i64 y) ∧ w'.cell? ⟨D, 2, none⟩ = some (.int .i64 z)) := Lib.hid fun w' hb => ⟨(HD.out.later hb).at 0 _ rfl, (HD.out.later hb).at 1 _ rfl, (HD.out.later hb).at 2 _ rfl⟩
  go_region_held3 (fun w' => w'.cell? ⟨D, 0, none⟩ = some (.int .i64 x) ∧ w'.cell? ⟨D, 1, none⟩ = some (.int .i64 y) ∧ w'.cell? ⟨D, 2, none⟩ = some (.int .i64 z)) (first | exact SH.out _ (by assumption) | exact SH.out _ (Below.al (by assumption))) (first | (go_at_call 22; (with_reducible refine (om.out _).mono ?_); rintro e w3 ⟨rfl, h1⟩; have bw3 : Below w2.heap.size w2 w3 := Below.go hBd h1; clear h1) | (go_at_call 23; (with_reducible refine (rm.out _).mono ?_); rintro e w4 ⟨rfl, h1⟩; have bw4 : Below w2.heap.size w2 w4 := Below.go bw3 h1; clear h1) | (go_at_call 19; (with_reducible refine (wk.out _).mono ?_); rintro e w5 ⟨rfl, h1⟩; have bw5 : Below w2.heap.size w2 w5 := Below.go bw4 h1; clear h1))
  have hB5 := Below.go hB2 bw5
  clear hB2 hBd bw3 bw4 bw5 SH HD oe re om rm wk
  go_wp2
  go_ret
  exact ⟨rfl, hB5⟩
theorem Encodes_walk (x y z : Int) (w : World) : Calls Try.prog 4 #[(.agg #[.int .i64 x, .int .i64 y, .int .i64 z])] w fun e w' => e = .returned (.bool true) ∧ Below w.heap.size w w' := by
  cases h : dirB x y z with
  | true => exact Encodes_core x y z _ 0 _ (IntWalk.wrap64_in _ (by omega)) w (Lib.hid (OEncode_any x y z h)) (Lib.hid (REncode_any x y z h)) (Lib.hid (OMay_any x y z)) (Lib.hid (RMay_any x y z)) (Lib.hid works_any5)
  | false => exact Encodes_core x y z _ 2 _ (IntWalk.wrap64_in _ (by omega)) w (Lib.hid (OEncode_none x y z h)) (Lib.hid (REncode_none x y z h)) (Lib.hid (OMay_any x y z)) (Lib.hid (RMay_any x y z)) (Lib.hid works_any5)
end Go.Proofs.Ytgggngcgcpmkbaa
