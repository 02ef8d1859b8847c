/- VecUnits returns true for every vector and every place: the vector has the length and the unit vector that the document says, the place its direction. No condition. -/
import Derived.Test.YtalclbngpimajaaRows
import Derived.Test.YtalclbngpimajaaVN
import Derived.WalkKit
import Derived.ProofKit
import Derived.OpenShut
import Derived.Lib.SmallJoins
namespace Go.Proofs.Ytalclbngpimajaa.vecUnits
set_option linter.unusedVariables false
set_option maxRecDepth 2000
open Go.ChangeShapes Go.WideShapes Go.ChangeAt Go.RowKit Go.Joins

theorem own : ownKnob Try.prog.godebug = none := by kernel_rfl
theorem cellsPoint : Try.prog.cellsOf 32 = 3 := by kernel_rfl
theorem cellsVec : Try.prog.cellsOf 25 = 3 := by kernel_rfl

set_option maxRecDepth 100000 in
theorem lifted (os : Os) (started : os.Started) (H : Type) (enc : TypeId × Value → H) :
    ReturnsInHanded {} Try.checked os 6 .any (Rows.vecUnitsSpec.pre6 enc Try.prog Try.f6 Rows.vecUnitsRow.domain false) (Rows.vecUnitsSpec.post enc Try.prog Try.f6 false true false false) := by
  refine returnsInHanded_of_change (C := Try.checked) own started (by kernel_rfl) Try.func6
    (ChangeSpec.witness6 (enc := enc) (C := Try.checked) false ⟨#[], #[.agg #[.int .i64 0, .int .i64 0, .int .i64 0], .agg #[.int .i64 0, .int .i64 0, .int .i64 0]], []⟩ 8 (by kernel_rfl) (by kernel_rfl) (by kernel_rfl) (by kernel_rfl)) ?_
  intro W base args ds gs before hval0 hW _ _
  have hval : ∀ (j : Nat) t v, Try.f6.params[j]? = some t → args[j]? = some v → Value.okWide Try.prog W .any base t v := hval0
  have hW' := hW
  obtain ⟨p, q, hA0, hV, rfl, _, _⟩ := hW
  have hA : DataW.TrodAll enc Try.prog W 0 (fun _ => true) true Try.f6.params.toList args.toList ds p := hA0
  rw [Try.params6] at hA hval
  obtain ⟨v0, v1, d0, d1, p0, p1, rfl, rfl, rfl, g0, g1⟩ := trodAll_two hA
  obtain ⟨rfl, rfl⟩ := trodVars_none hV
  obtain ⟨x00, x01, x02, y00, y01, y02, m0, rfl, rfl, rfl, hy00, hy01, hy02⟩ := open_agg3 Try.underlying25 (by kernel_rfl) cellsVec (hval 0 25 v0 rfl rfl) g0
  obtain ⟨c00, e00, rfl, w00⟩ := DataW.trod_int Try.underlying23 hy00
  obtain ⟨c01, e01, rfl, w01⟩ := DataW.trod_int Try.underlying23 hy01
  obtain ⟨c02, e02, rfl, w02⟩ := DataW.trod_int Try.underlying23 hy02
  simp at e00 e01 e02
  subst e00 e01 e02
  obtain ⟨x10, x11, x12, y10, y11, y12, m1, rfl, rfl, rfl, hy10, hy11, hy12⟩ := open_agg3 Try.underlying32 (by kernel_rfl) cellsPoint (hval 1 32 v1 rfl rfl) g1
  obtain ⟨c10, e10, rfl, w10⟩ := DataW.trod_int Try.underlying3 hy10
  obtain ⟨c11, e11, rfl, w11⟩ := DataW.trod_int Try.underlying3 hy11
  obtain ⟨c12, e12, rfl, w12⟩ := DataW.trod_int Try.underlying3 hy12
  simp at e10 e11 e12
  subst e10 e11 e12
  clear hA0 hval0
  simp only [List.append_nil] at hW'
  have b00 : -9223372036854775808 ≤ c00 ∧ c00 ≤ 9223372036854775807 := by simpa [Lit.wf, IntKind.min, IntKind.max, IntKind.signed, IntKind.bits] using w00
  have b01 : -9223372036854775808 ≤ c01 ∧ c01 ≤ 9223372036854775807 := by simpa [Lit.wf, IntKind.min, IntKind.max, IntKind.signed, IntKind.bits] using w01
  have b02 : -9223372036854775808 ≤ c02 ∧ c02 ≤ 9223372036854775807 := by simpa [Lit.wf, IntKind.min, IntKind.max, IntKind.signed, IntKind.bits] using w02
  have st0 : ∀ (W' : World) (sp : Nat → Bool), DataW.Trod enc Try.prog W' 0 sp true 25 (.agg #[.int .i64 c00, .int .i64 c01, .int .i64 c02]) (.agg [.lit (.int .i64 c00), .lit (.int .i64 c01), .lit (.int .i64 c02)]) [] := fun W' sp =>
    shut_agg3 (y0 := (.lit (.int .i64 c00), [])) (y1 := (.lit (.int .i64 c01), [])) (y2 := (.lit (.int .i64 c02), [])) Try.underlying25 (by kernel_rfl) cellsVec ⟨1, by simp [DataW.trod, Try.underlying23, w00]⟩ ⟨1, by simp [DataW.trod, Try.underlying23, w01]⟩ ⟨1, by simp [DataW.trod, Try.underlying23, w02]⟩
  have b10 : -9223372036854775808 ≤ c10 ∧ c10 ≤ 9223372036854775807 := by simpa [Lit.wf, IntKind.min, IntKind.max, IntKind.signed, IntKind.bits] using w10
  have b11 : -9223372036854775808 ≤ c11 ∧ c11 ≤ 9223372036854775807 := by simpa [Lit.wf, IntKind.min, IntKind.max, IntKind.signed, IntKind.bits] using w11
  have b12 : -9223372036854775808 ≤ c12 ∧ c12 ≤ 9223372036854775807 := by simpa [Lit.wf, IntKind.min, IntKind.max, IntKind.signed, IntKind.bits] using w12
  have st1 : ∀ (W' : World) (sp : Nat → Bool), DataW.Trod enc Try.prog W' 0 sp true 32 (.agg #[.int .i64 c10, .int .i64 c11, .int .i64 c12]) (.agg [.lit (.int .i64 c10), .lit (.int .i64 c11), .lit (.int .i64 c12)]) [] := fun W' sp =>
    shut_agg3 (y0 := (.lit (.int .i64 c10), [])) (y1 := (.lit (.int .i64 c11), [])) (y2 := (.lit (.int .i64 c12), [])) Try.underlying32 (by kernel_rfl) cellsPoint ⟨1, by simp [DataW.trod, Try.underlying3, w10]⟩ ⟨1, by simp [DataW.trod, Try.underlying3, w11]⟩ ⟨1, by simp [DataW.trod, Try.underlying3, w12]⟩
  refine (Units_walk c00 c01 c02 c10 c11 c12 b00 b01 b02 W).mono fun e W' ⟨he, hg⟩ => ?_
  subst he
  exact ⟨_, rfl, _, _, _, [], [], [], hW', trodAll_mk1 (shut_bool Try.underlying4 _), trodAll_mk2 (st0 _ _) (st1 _ _), rfl, hg.frame _, fun h => by cases h⟩

theorem proved : Rows.VecUnitsSaid :=
  OpenClaim.holds_of_wide 6 Try.f6 rfl rfl rfl rfl rfl rfl rfl ⟨rfl, rfl, rfl, rfl, rfl⟩ rfl rfl rfl rfl rfl (by kernel_rfl) Try.func6 (by kernel_rfl)
    (of_decide_eq_true (by kernel_rfl)) (by unfold Func.isWrapper; first | (rw [if_pos (by decide +kernel)]; kernel_rfl) | (rw [if_neg (by decide +kernel)]; exact ⟨rfl, rfl⟩))
    (fun os started H enc _ => lifted os started H enc)
end Go.Proofs.Ytalclbngpimajaa.vecUnits
