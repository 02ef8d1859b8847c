/- codec: the answers of a Reader that New did not make, and of none. -/
import Derived.Test.YtnopcgkhoennfaaDL
import Derived.Lib.Hide
import Derived.Deep.Onto
namespace Go.Proofs.Ytnopcgkhoennfaa
set_option linter.unusedVariables false
set_option maxRecDepth 2000
set_option linter.unusedSimpArgs false
open Go.RowKit
theorem cut_none (P : Value) (x lo hi : Int) (w : World) (hE : Calls Try.prog 51 #[P] w fun e w' => e = .returned (.int .i64 1) ∧ w' = w) :
    Calls Try.prog 61 #[P, .int .i64 x, .int .i64 lo, .int .i64 hi] w fun e w' => e = .returned (.slice none 0 0) ∧ w' = w := by
  have HE := Lib.hid hE
  clear hE
  go_enter Try.func61, Try.ntmps61
  go_wp2_with (fail)
  go_at_call 51
  refine (HE.out).mono ?_
  rintro e w1 ⟨rfl, hw⟩
  obtain rfl : w = w1 := hw.symm
  go_wp2_with (fail)
  go_ret
  exact ⟨rfl, rfl⟩
theorem Clone_nil (w : World) : Calls Try.prog 48 #[.slice none 0 0] w fun e w' => e = .returned (.slice none 0 0) ∧ w' = w := by
  have hcv := Lib.run_eql_slice_nil (P := Try.prog) w 28 5 none 0 0 0 0 Try.underlying28
  go_enter Try.func48, Try.ntmps48
  go_wp2_with (fail)
  go_ret
  exact ⟨rfl, rfl⟩

theorem Num_none (P : Value) (x : Int) (w : World) (hE : Calls Try.prog 51 #[P] w fun e w' => e = .returned (.int .i64 1) ∧ w' = w) :
    Calls Try.prog 49 #[P, .int .i64 x] w fun e w' => e = .returned (.int .u64 0) ∧ w' = w := by
  have CU := Lib.hid (fun x lo hi => cut_none P x lo hi w hE)
  clear hE
  go_enter Try.func49, Try.ntmps49
  go_wp2_with (fail)
  go_at_call 61
  refine (CU.out _ _ _).mono ?_
  rintro e w1 ⟨rfl, hw⟩
  obtain rfl : w = w1 := hw.symm
  go_wp2_with (fail)
  go_at_call 60
  refine (number_any none 0 0 (fun _ => 0) (by decide) (fun j hj => absurd hj (Nat.not_lt_zero j)) w (.inl rfl)).mono ?_
  rintro e w1 ⟨rfl, hw⟩
  obtain rfl : w = w1 := hw.symm
  have z1 : leN (fun _ => (0 : Int)) 0 = 0 := rfl
  go_wp2_with (fail)
  go_ret
  exact ⟨rfl, rfl⟩

theorem Int_none (P : Value) (x : Int) (w : World) (hE : Calls Try.prog 51 #[P] w fun e w' => e = .returned (.int .i64 1) ∧ w' = w) :
    Calls Try.prog 50 #[P, .int .i64 x] w fun e w' => e = .returned (.int .i64 0) ∧ w' = w := by
  have CU := Lib.hid (fun x lo hi => cut_none P x lo hi w hE)
  clear hE
  go_enter Try.func50, Try.ntmps50
  go_wp2_with (fail)
  go_at_call 61
  refine (CU.out _ _ _).mono ?_
  rintro e w1 ⟨rfl, hw⟩
  obtain rfl : w = w1 := hw.symm
  go_wp2_with (fail)
  go_at_call 60
  refine (number_any none 0 0 (fun _ => 0) (by decide) (fun j hj => absurd hj (Nat.not_lt_zero j)) w (.inl rfl)).mono ?_
  rintro e w1 ⟨rfl, hw⟩
  obtain rfl : w = w1 := hw.symm
  have z1 : leN (fun _ => (0 : Int)) 0 = 0 := rfl
  go_wp2_with (fail)
  go_ret
  exact ⟨rfl, rfl⟩

end Go.Proofs.Ytnopcgkhoennfaa
