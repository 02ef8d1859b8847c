/- poly.Mac's Add. -/
import Derived.Test.YtbofihejegbfhaaNZf
import Derived.Test.YtbofihejegbfhaaNV
import Derived.Lib.Hide
namespace Go.Proofs.Ytbofihejegbfhaa
set_option linter.unusedVariables false
set_option maxRecDepth 2000
set_option linter.unusedSimpArgs false
open Go.RowKit
theorem over_macL (kf : Nat → Int) (u v : Value) : over (macL kf u) 33 [v] = macL kf v := by
  rw [over_set _ _ _ (by simp [macL, nums])]
  simp [macL, nums]

set_option maxHeartbeats 4000000 in
theorem Add_any (kf : Nat → Int) (K : Nat) (p0 : Option Addr) (n c0 : Nat) (g : Nat → Int) (P_ : Option Addr) (np cp : Nat) (T : Nat → Nat) (hnc : n ≤ c0) (hp0 : p0 = none → n = 0) (hT0 : T 0 = n) (hT : ∀ k, k ≤ np → T k ≤ 65536) (hnp : np ≤ cp) (hcp : cp ≤ 9223372036854775807) (w : World) (hK : Own K (macL kf (.slice p0 n c0)) w) (hb : BytN w p0 n g K) (hP : PartsN w P_ np g T K) :
    Calls Try.prog 7 #[.pointer (some ⟨K, 0, none⟩), .slice P_ np cp] w fun e w' => ∃ v', e = .returned (.tuple #[]) ∧ DatK w' v' (T np) g w.heap.size K p0 ∧ Own K (macL kf v') w' ∧ But K w w' := by
  have HK := Lib.hid hK
  have KE := Lib.hid (keep_any K 33 (macL kf (.slice p0 n c0)) p0 n c0 g P_ np cp T (macL_data kf _) hnc hp0 hT0 hT hnp hcp w hK hb hP)
  have x0 := hK.at 32 _ (macL_made kf _)
  clear hnc hp0 hT0 hT hnp hcp hK hb hP
  go_enter Try.func7, Try.ntmps7
  go_wp2_with (fail)
  go_at_call 16
  refine KE.out.mono ?_
  rintro e w1 ⟨v1, rfl, hdat, hKs, hbut⟩
  rw [over_macL] at hKs
  go_wp2_with (fail)
  refine bodyPost_end (results_none rfl _ _ _) rfl ?_
  exact ⟨v1, rfl, hdat, hKs, hbut⟩
end Go.Proofs.Ytbofihejegbfhaa
