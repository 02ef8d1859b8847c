/- ShaPads, ShaWhole: the walks. -/
import Derived.Test.YtajejlaoompieaaDoorHR
import Derived.Test.YtajejlaoompieaaDoorHH
import Derived.Lib.Hide
import Derived.LoopN
import Derived.LoopTactic
import Derived.Deep.Onto
namespace Go.Proofs.YtajejlaoompieaaDoor
set_option linter.unusedVariables false
set_option maxRecDepth 2000
set_option linter.unusedSimpArgs false
open Go.RowKit
set_option maxHeartbeats 4000000 in
theorem Pads_core (n : Int) (hn : -9223372036854775808 ≤ n ∧ n ≤ 9223372036854775807) (w : World) (hG : Has 0 0 (nums .u32 kC 64) w) (hH : Has 1 0 (nums .u32 hC 8) w) : Calls Tryd.prog 3 #[.int .i64 n] w fun e w' => e = .returned (.bool true) ∧ Below w.heap.size w w' := by
  have HG := Lib.hid hG; have HH := Lib.hid hH
  obtain ⟨N, eN⟩ : ∃ N : Nat, max n 0 = (N : Int) := ⟨(max n 0).toNat, by omega⟩
  have PC := Lib.hid (fun w => Pad_any n N eN (by omega) w)
  have RC := Lib.hid (fun w => RPad_any n N eN (by omega) w)
  clear hG hH eN hn
  go_enter Tryd.func3, Tryd.ntmps3
  go_wp2_with (fail)
  go_at_call 11
  refine (PC.out _).mono ?_
  rintro e w1 ⟨v1, rfl, hr1, hb1⟩
  go_wp2_with (fail)
  go_at_call 12
  refine (RC.out _).mono ?_
  rintro e w2 ⟨v2, rfl, hr2, hb2⟩
  have EQ := Lib.hid (Equal_R v1 v2 (plen N) (padF N) w2 ((RowR.of hr1).later hb2 (Nat.le_refl _)) (RowR.of hr2))
  have B2 := Below.go hb1 hb2
  clear hr1 hr2 hb1 hb2 PC RC
  go_wp2_with (fail)
  go_at_call 10
  refine EQ.out.mono ?_
  rintro e w3 ⟨rfl, hb⟩
  have B3 := Below.go B2 hb
  have G3 := HG.out.later B3
  have H3 := HH.out.later B3
  clear hb B2 EQ
  go_wp2_with (fail)
  go_at_call 13
  refine (works_any _ G3 H3).mono ?_
  rintro e w4 ⟨rfl, hb⟩
  have B4 := Below.go B3 hb
  clear hb B3 G3 H3
  go_wp2_with (fail)
  go_ret
  exact ⟨rfl, B4⟩
end Go.Proofs.YtajejlaoompieaaDoor
