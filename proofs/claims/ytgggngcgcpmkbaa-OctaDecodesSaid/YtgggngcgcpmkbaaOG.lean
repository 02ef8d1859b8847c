/- umbralaw05.works: the chapter's example. -/
import Derived.Test.YtgggngcgcpmkbaaOC
import Derived.Test.YtgggngcgcpmkbaaOE
import Derived.Test.YtgggngcgcpmkbaaOF
namespace Go.Proofs.Ytgggngcgcpmkbaa
set_option linter.unusedVariables false
set_option maxRecDepth 2000
set_option linter.unusedSimpArgs false
open Go.RowKit
attribute [local go_sem] setCell_twice setCell_pair
attribute [local go_sem ↓] eqPt neqPt

theorem works_core (w : World)
    (en : Hid (∀ w, Calls Try.prog 20 #[(.agg #[.int .i64 1, .int .i64 0, .int .i64 0])] w fun e w' => e = .returned (.tuple #[.int .u32 2147500032, .int .i64 0]) ∧ Below w.heap.size w w'))
    (qu : Hid (∀ w, Calls Try.prog 24 #[(.agg #[.int .i64 1, .int .i64 (-2), .int .i64 0])] w fun e w' => e = .returned (.tuple #[(.agg #[.int .i64 8192, .int .i64 (-16384), .int .i64 0]), .int .i64 0]) ∧ Below w.heap.size w w'))
    (de : Hid (∀ w, Calls Try.prog 15 #[.int .u32 1073758208] w fun e w' => e = .returned (.agg #[.int .i64 0, .int .i64 0, .int .i64 16384]) ∧ Below w.heap.size w w')) :
    Calls Try.prog 19 #[] w fun e w' => e = .returned (.bool true) ∧ Below w.heap.size w w' := by
  have e1 : eqT 0 0 16384 0 0 16384 = true := rfl
  have e2 : eqT 8192 (-16384) 0 8192 (-16384) 0 = true := rfl
  go_enter Try.func19, Try.ntmps19
  go_wp2_with (fail)
  go_at_call 20; refine (en.out _).mono ?_; rintro e w1 ⟨rfl, hb1⟩
  go_wp2_with (fail)
  go_at_call 24; refine (qu.out _).mono ?_; rintro e w2 ⟨rfl, hb2⟩
  go_wp2_with (fail)
  go_at_call 15; refine (de.out _).mono ?_; rintro e w3 ⟨rfl, hb⟩
  have oR : Own w2.heap.size [.int .i64 8192, .int .i64 (-16384), .int .i64 0] w3 := (Own.newAt (W := w2) (cs := #[.int .i64 8192, .int .i64 (-16384), .int .i64 0]) (T := 24) rfl).later hb
  have rc0 := oR.at 0 _ rfl
  have rc1 := oR.at 1 _ rfl
  have rc2 := oR.at 2 _ rfl
  have rf0 := oR.ok 0 (by simp)
  have rf1 := oR.ok 1 (by simp)
  have rf2 := oR.ok 2 (by simp)
  have rl := oR.lt
  have hB : Below w2.heap.size w2 w3 := Below.go (Below.al (Below.refl _ _)) hb
  clear hb oR
  have hC : Below w.heap.size w w3 := Below.go (Below.go hb1 hb2) hB
  clear hb1 hb2 hB en qu de
  go_wp2
  go_ret
  exact ⟨rfl, hC⟩
theorem works_any5 (w : World) : Calls Try.prog 19 #[] w fun e w' => e = .returned (.bool true) ∧ Below w.heap.size w w' := by
  refine works_core w (Lib.hid fun w => ?_) (Lib.hid fun w => ?_) (Lib.hid fun w => ?_)
  · have := OEncode_any 1 0 0 (by decide) w
    rw [show encC 1 0 0 = 2147500032 by decide] at this
    exact this
  · have := OQuant_any 1 (-2) 0 (by unfold in64; omega) (by unfold in64; omega) (by unfold in64; omega) (by decide) w
    unfold quaV at this
    rw [show qP 1 (mostF 1 (-2) 0) = 8192 by decide, show qP (-2) (mostF 1 (-2) 0) = -16384 by decide, show qP 0 (mostF 1 (-2) 0) = 0 by decide] at this
    exact this
  · have := ODecode_any 1073758208 (by omega) (by omega) w
    unfold decV at this
    rw [show decX (mid (1073758208 / 65536)) (mid (1073758208 % 65536)) = 0 by decide, show decY (mid (1073758208 / 65536)) (mid (1073758208 % 65536)) = 0 by decide, show decZ (mid (1073758208 / 65536)) (mid (1073758208 % 65536)) = 16384 by decide] at this
    exact this
theorem eqT_self (a b c : Int) : eqT a b c a b c = true := by simp [eqT]

set_option maxHeartbeats 1000000 in
theorem Decodes_core (x X Y Z U V T : Int) (w : World)
    (d1 : Hid (∀ w, Calls Try.prog 15 #[.int .u32 x] w fun e w' => e = .returned (.agg #[.int .i64 X, .int .i64 Y, .int .i64 Z]) ∧ Below w.heap.size w w')) (d2 : Hid (∀ w, Calls Try.prog 16 #[.int .u32 x] w fun e w' => e = .returned (.agg #[.int .i64 X, .int .i64 Y, .int .i64 Z]) ∧ Below w.heap.size w w'))
    (p1 : Hid (∀ w, Calls Try.prog 17 #[.int .u32 x] w fun e w' => e = .returned (.agg #[.int .i64 U, .int .i64 V, .int .i64 T]) ∧ Below w.heap.size w w')) (p2 : Hid (∀ w, Calls Try.prog 18 #[.int .u32 x] w fun e w' => e = .returned (.agg #[.int .i64 U, .int .i64 V, .int .i64 T]) ∧ Below w.heap.size w w'))
    (wk : Hid (∀ w, Calls Try.prog 19 #[] w fun e w' => e = .returned (.bool true) ∧ Below w.heap.size w w')) :
    Calls Try.prog 3 #[.int .u32 x] w fun e w' => e = .returned (.bool true) ∧ Below w.heap.size w w' := by
  have e1 := eqT_self X Y Z
  have e2 := eqT_self U V T
  go_enter Try.func3, Try.ntmps3
  go_wp2_with (fail)
  go_at_call 15; refine (d1.out _).mono ?_; rintro e w1 ⟨rfl, hb⟩
  have hB0 := hb
  clear hb
  go_wp2_with (fail)
  go_at_call 16; refine (d2.out _).mono ?_; rintro e w2 ⟨rfl, hb⟩
  have hB1 : Below w.heap.size w w2 := Below.go hB0 hb
  clear hb hB0
  go_wp2_with (fail)
  go_at_call 17; refine (p1.out _).mono ?_; rintro e w3 ⟨rfl, hb⟩
  have hB2 : Below w.heap.size w w3 := Below.go hB1 hb
  clear hb hB1
  go_wp2_with (fail)
  go_at_call 18; refine (p2.out _).mono ?_; rintro e w4 ⟨rfl, hb⟩
  have hB3 : Below w.heap.size w w4 := Below.go hB2 hb
  clear hb hB2
  go_wp2_with (fail)
  go_at_call 19; refine (wk.out _).mono ?_; rintro e w5 ⟨rfl, hb⟩
  have hB4 : Below w.heap.size w w5 := Below.go hB3 hb
  clear hb hB3
  go_wp2
  go_ret
  exact ⟨rfl, hB4⟩
theorem Decodes_walk (x : Int) (h0 : 0 ≤ x) (h1 : x < 4294967296) (w : World) : Calls Try.prog 3 #[.int .u32 x] w fun e w' => e = .returned (.bool true) ∧ Below w.heap.size w w' :=
  Decodes_core x _ _ _ _ _ _ w (Lib.hid (ODecode_any x h0 h1)) (Lib.hid (RDecode_any x h0 h1)) (Lib.hid (OPick_any x h0 h1)) (Lib.hid (RPick_any x h0 h1)) (Lib.hid works_any5)
end Go.Proofs.Ytgggngcgcpmkbaa
