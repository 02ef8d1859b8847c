/- StreamKeys: its walk. -/
import Derived.Test.YtbepgbpmgiihbaaJC
namespace Go.Proofs.Ytbepgbpmgiihbaa
set_option linter.unusedVariables false
set_option maxRecDepth 2000
set_option linter.unusedSimpArgs false
open Go.RowKit
theorem eqK32 (f : Nat → Int) (w : World) : (Op.equalIn 10000 24 (.agg (nums .u8 f 32).toArray) (.agg (nums .u8 f 32).toArray)).run Try.prog w = .ok true w :=
  eq_nums (e := 5) 9998 Try.underlying24 Try.underlying5 (by simp [go_sem]) (by simp [go_sem])
theorem Keys_law (s x n : Int) (hs : 0 ≤ s ∧ s < 18446744073709551616) (hx : in32 x) (hn : inI n) (w : World) :
    Calls Try.prog 3 #[.int .u64 s, .int .u32 x, .int .i64 n] w fun e w' => e = .returned (.bool true) ∧ Below w.heap.size w w' := by
  have FK := Lib.hid (Key_any s hs)
  have FR := Lib.hid (RKey_any s hs)
  have FA := Lib.hid (Below_any x n hx hn)
  have FB := Lib.hid (RBelow_any x n hx hn)
  have FU := Lib.hid (Unit_any x hx)
  have FV := Lib.hid (RUnit_any x hx)
  generalize belowF x n = a at *
  generalize keyF s = f at *
  have hq := eqK32 f
  unfold in32 inI at *
  go_enter Try.func3, Try.ntmps3
  go_wp2_with (fail)
  go_at_call 5
  refine (FK.out _).mono ?_
  rintro e w1 ⟨rfl, hb⟩
  go_wp2_with (fail)
  go_at_call 6
  refine (FR.out _).mono ?_
  rintro e w2 ⟨rfl, hb2⟩
  have hB := Below.go hb hb2
  clear hb hb2
  go_wp2_with (fail)
  go_at_call 7
  refine (FA.out _).mono ?_
  rintro e w3 ⟨rfl, hb3⟩
  have hB2 := Below.go hB hb3
  clear hB hb3
  go_wp2_with (fail)
  go_at_call 8
  refine (FB.out _).mono ?_
  rintro e w4 ⟨rfl, hb4⟩
  have hB3 := Below.go hB2 hb4
  clear hB2 hb4
  go_wp2_with (fail)
  go_at_call 9
  refine (FU.out _).mono ?_
  rintro e w5 ⟨rfl, hb5⟩
  have hB4 := Below.go hB3 hb5
  clear hB3 hb5
  go_wp2_with (fail)
  go_at_call 10
  refine (FV.out _).mono ?_
  rintro e w6 ⟨rfl, hb6⟩
  have hB5 := Below.go hB4 hb6
  clear hB4 hb6
  go_wp2_with (fail)
  go_at_call 11
  refine (works10_any _).mono ?_
  rintro e w7 ⟨rfl, hb7⟩
  have hB6 := Below.go hB5 hb7
  go_wp2_with (fail)
  go_ret
  exact ⟨rfl, hB6⟩
end Go.Proofs.Ytbepgbpmgiihbaa
