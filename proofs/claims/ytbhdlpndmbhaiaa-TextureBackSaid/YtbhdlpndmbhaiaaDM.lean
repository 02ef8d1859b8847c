/- codec: the answers of a Reader that New did not make, and of none. -/
import Derived.Test.YtbhdlpndmbhaiaaDL
import Derived.Lib.Hide
import Derived.Deep.Onto
namespace Go.Proofs.Ytbhdlpndmbhaiaa
set_option linter.unusedVariables false
set_option maxRecDepth 2000
set_option linter.unusedSimpArgs false
open Go.RowKit
theorem cut_none (P : Value) (x lo hi : Int) (w : World) (hE : Calls Try.prog 47 #[P] w fun e w' => e = .returned (.int .i64 1) ∧ w' = w) :
    Calls Try.prog 46 #[P, .int .i64 x, .int .i64 lo, .int .i64 hi] w fun e w' => e = .returned (.slice none 0 0) ∧ w' = w := by
  have HE := Lib.hid hE
  clear hE
  go_enter Try.func46, Try.ntmps46
  go_wp2_with (fail)
  go_at_call 47
  refine (HE.out).mono ?_
  rintro e w1 ⟨rfl, hw⟩
  obtain rfl : w = w1 := hw.symm
  go_wp2_with (fail)
  go_ret
  exact ⟨rfl, rfl⟩
theorem Clone_nil (w : World) : Calls Try.prog 44 #[.slice none 0 0] w fun e w' => e = .returned (.slice none 0 0) ∧ w' = w := by
  have hcv := Lib.run_eql_slice_nil (P := Try.prog) w 26 5 none 0 0 0 0 Try.underlying26
  go_enter Try.func44, Try.ntmps44
  go_wp2_with (fail)
  go_ret
  exact ⟨rfl, rfl⟩

theorem Num_none (P : Value) (x : Int) (w : World) (hE : Calls Try.prog 47 #[P] w fun e w' => e = .returned (.int .i64 1) ∧ w' = w) :
    Calls Try.prog 29 #[P, .int .i64 x] w fun e w' => e = .returned (.int .u64 0) ∧ w' = w := by
  have CU := Lib.hid (fun x lo hi => cut_none P x lo hi w hE)
  clear hE
  go_enter Try.func29, Try.ntmps29
  go_wp2_with (fail)
  go_at_call 46
  refine (CU.out _ _ _).mono ?_
  rintro e w1 ⟨rfl, hw⟩
  obtain rfl : w = w1 := hw.symm
  go_wp2_with (fail)
  go_at_call 45
  refine (number_any none 0 0 (fun _ => 0) (by decide) (fun j hj => absurd hj (Nat.not_lt_zero j)) w (.inl rfl)).mono ?_
  rintro e w1 ⟨rfl, hw⟩
  obtain rfl : w = w1 := hw.symm
  have z1 : leN (fun _ => (0 : Int)) 0 = 0 := rfl
  go_wp2_with (fail)
  go_ret
  exact ⟨rfl, rfl⟩

theorem Take_none (P : Value) (x : Int) (w : World) (hE : Calls Try.prog 47 #[P] w fun e w' => e = .returned (.int .i64 1) ∧ w' = w) :
    Calls Try.prog 30 #[P, .int .i64 x] w fun e w' => e = .returned (.slice none 0 0) ∧ w' = w := by
  have CU := Lib.hid (fun x lo hi => cut_none P x lo hi w hE)
  clear hE
  go_enter Try.func30, Try.ntmps30
  go_wp2_with (fail)
  go_at_call 46
  refine (CU.out _ _ _).mono ?_
  rintro e w1 ⟨rfl, hw⟩
  obtain rfl : w = w1 := hw.symm
  go_wp2_with (fail)
  go_at_call 44
  refine (Clone_nil w).mono ?_
  rintro e w1 ⟨rfl, hw⟩
  obtain rfl : w = w1 := hw.symm
  go_wp2_with (fail)
  go_ret
  exact ⟨rfl, rfl⟩
end Go.Proofs.Ytbhdlpndmbhaiaa
