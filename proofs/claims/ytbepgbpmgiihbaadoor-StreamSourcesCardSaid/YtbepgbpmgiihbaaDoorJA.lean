/- stream: Below and Unit of both, and the chapter's example. -/
import Derived.Test.YtbepgbpmgiihbaaDoorCJ
import Derived.Lib.Hide
import Derived.Deep.QuietTactic
namespace Go.Proofs.YtbepgbpmgiihbaaDoor
set_option linter.unusedVariables false
set_option maxRecDepth 2000
set_option linter.unusedSimpArgs false
open Go.RowKit
def inI (x : Int) : Prop := -9223372036854775808 ≤ x ∧ x ≤ 9223372036854775807
/-- n, and at most 2^31, and at least 0 -/
def capN (n : Int) : Int := if n < 1 then 0 else if 2147483648 < n then 2147483648 else n
def belowF (x n : Int) : Int := x * capN n / 4294967296
theorem in_capN (n : Int) : 0 ≤ capN n ∧ capN n ≤ 2147483648 := by unfold capN; split <;> (try split) <;> omega
theorem mul_le {a b c d : Int} (h1 : 0 ≤ a) (h2 : a ≤ c) (h3 : 0 ≤ b) (h4 : b ≤ d) : a * b ≤ c * d := Int.mul_le_mul h2 h4 h3 (Int.le_trans h1 h2)
theorem in_prod {x c : Int} (hx : in32 x) (hc : 0 ≤ c ∧ c ≤ 2147483648) : 0 ≤ x * c ∧ x * c ≤ 9223372034707292160 := by
  unfold in32 at hx
  exact ⟨Int.mul_nonneg hx.1 hc.1, mul_le hx.1 (show x ≤ 4294967295 by omega) hc.1 hc.2⟩
theorem in_belowF {x : Int} (hx : in32 x) (n : Int) : 0 ≤ belowF x n ∧ belowF x n < 2147483648 := by
  have h := in_prod hx (in_capN n)
  unfold belowF
  omega

theorem Below_any (x n : Int) (hx : in32 x) (hn : inI n) (w : World) :
    Calls Tryd.prog 16 #[.int .u32 x, .int .i64 n] w fun e w' => e = .returned (.int .i64 (belowF x n)) ∧ Below w.heap.size w w' := by
  have hp := in_prod hx (in_capN n)
  have hb := in_belowF hx n
  have hc := in_capN n
  have hm : (if 2147483648 < (if n < 0 then 0 else n) then 2147483648 else (if n < 0 then 0 else n)) = capN n := by unfold capN; split <;> split <;> (try split) <;> omega
  unfold belowF at *
  generalize capN n = c at *
  unfold in32 inI at *
  go_enter Tryd.func16, Tryd.ntmps16
  go_wp2_with (fail)
  all_goals (go_ret; exact ⟨rfl, Below.refl _ _⟩)

theorem Unit_any (x : Int) (hx : in32 x) (w : World) :
    Calls Tryd.prog 17 #[.int .u32 x] w fun e w' => e = .returned (.int .i64 x) ∧ Below w.heap.size w w' := by
  unfold in32 at hx
  go_enter Tryd.func17, Tryd.ntmps17
  go_wp2_with (fail)
  go_ret
  exact ⟨rfl, Below.refl _ _⟩

theorem works10_any (w : World) : Calls Tryd.prog 8 #[] w fun e w' => e = .returned (.bool true) ∧ Below w.heap.size w w' := by
  have HA := Lib.hid (Below_any 2147483648 6 (by unfold in32; decide) (by unfold inI; decide))
  have HU := Lib.hid (Unit_any 2147483648 (by unfold in32; decide))
  rw [show belowF 2147483648 6 = 3 by decide] at HA
  go_enter Tryd.func8, Tryd.ntmps8
  go_wp2_with (fail)
  go_at_call 16
  refine (HA.out _).mono ?_
  rintro e w1 ⟨rfl, hb⟩
  go_wp2_with (fail)
  go_at_call 17
  refine (HU.out _).mono ?_
  rintro e w2 ⟨rfl, hb2⟩
  have hB := Below.go hb hb2
  go_wp2_with (fail)
  go_ret
  exact ⟨rfl, hB⟩
end Go.Proofs.YtbepgbpmgiihbaaDoor
