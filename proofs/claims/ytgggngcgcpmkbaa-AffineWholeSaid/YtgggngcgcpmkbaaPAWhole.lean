/- umbralaw04.AffineWhole returns true for every matrix and shift of small whole numbers and every place: where the whole numbers stay on the grid Place puts the place there, else it refuses with ErrGrid. No condition. -/
import Derived.Test.YtgggngcgcpmkbaaRows
import Derived.Test.YtgggngcgcpmkbaaPA
import Derived.Test.YtgggngcgcpmkbaaPB
import Derived.Test.YtgggngcgcpmkbaaAX
import Derived.WalkKit
import Derived.ProofKit
import Derived.OpenShut
import Derived.ChangeSlices
import Derived.Lib.SmallJoins
namespace Go.Proofs.Ytgggngcgcpmkbaa.affineWhole
set_option linter.unusedVariables false
set_option maxRecDepth 2000
open Go.ChangeShapes Go.WideShapes Go.ChangeAt Go.RowKit Go.Joins

theorem own : ownKnob Try.prog.godebug = none := by kernel_rfl
theorem laidOut : laidOutB Try.prog = true := by kernel_rfl

set_option maxRecDepth 100000 in
theorem lifted (os : Os) (started : os.Started) (H : Type) (enc : TypeId × Value → H) :
    ReturnsInHanded {} Try.checked os 14 .any (Rows.affineWholeSpec.pre6 enc Try.prog Try.f14 Rows.affineWholeRow.domain false) (Rows.affineWholeSpec.post enc Try.prog Try.f14 false true false false) := by
  refine returnsInHanded_of_change (C := Try.checked) own started (by kernel_rfl) Try.func14
    (ChangeSpec.witness6 (enc := enc) (C := Try.checked) false ⟨#[], #[.agg #[.int .i8 0, .int .i8 0, .int .i8 0, .int .i8 0, .int .i8 0, .int .i8 0, .int .i8 0, .int .i8 0, .int .i8 0], .agg #[.int .i16 0, .int .i16 0, .int .i16 0], .agg #[.int .i8 0, .int .i8 0, .int .i8 0]], []⟩ 8 (by kernel_rfl) (by kernel_rfl) (by kernel_rfl) (by kernel_rfl)) ?_
  intro W base args ds gs before hval0 hW _ _
  have hval : ∀ (j : Nat) t v, Try.f14.params[j]? = some t → args[j]? = some v → Value.okWide Try.prog W .any base t v := hval0
  have hW' := hW
  obtain ⟨p, q, hA0, hV, rfl, _, _⟩ := hW
  have hA : DataW.TrodAll enc Try.prog W 0 (fun _ => true) true Try.f14.params.toList args.toList ds p := hA0
  rw [Try.params14] at hA hval
  obtain ⟨v0, v1, v2, d0, d1, d2, p0, p1, p2, rfl, rfl, rfl, g0, g1, g2⟩ := trodAll_three hA
  obtain ⟨rfl, rfl⟩ := trodVars_none hV
  simp only [List.append_nil] at hW'
  obtain ⟨zs0, hz0, rfl, w0⟩ := open_arr (n := 9) (k := .i8) Try.underlying93 Try.underlying92 (by kernel_rfl) (by kernel_rfl) (hval 0 93 v0 rfl rfl) g0
  obtain ⟨r00, r01, r02, r03, r04, r05, r06, r07, r08, rfl⟩ := nine hz0
  have b00 := i8_wf (w0 r00 (by simp))
  have b01 := i8_wf (w0 r01 (by simp))
  have b02 := i8_wf (w0 r02 (by simp))
  have b03 := i8_wf (w0 r03 (by simp))
  have b04 := i8_wf (w0 r04 (by simp))
  have b05 := i8_wf (w0 r05 (by simp))
  have b06 := i8_wf (w0 r06 (by simp))
  have b07 := i8_wf (w0 r07 (by simp))
  have b08 := i8_wf (w0 r08 (by simp))
  obtain ⟨zs1, hz1, rfl, w1⟩ := open_arr (n := 3) (k := .i16) Try.underlying95 Try.underlying94 (by kernel_rfl) (by kernel_rfl) (hval 1 95 v1 rfl rfl) g1
  obtain ⟨r10, r11, r12, rfl⟩ := list_three hz1
  have b10 := i16_wf (w1 r10 (by simp))
  have b11 := i16_wf (w1 r11 (by simp))
  have b12 := i16_wf (w1 r12 (by simp))
  obtain ⟨zs2, hz2, rfl, w2⟩ := open_arr (n := 3) (k := .i8) Try.underlying96 Try.underlying92 (by kernel_rfl) (by kernel_rfl) (hval 2 96 v2 rfl rfl) g2
  obtain ⟨r20, r21, r22, rfl⟩ := list_three hz2
  have b20 := i8_wf (w2 r20 (by simp))
  have b21 := i8_wf (w2 r21 (by simp))
  have b22 := i8_wf (w2 r22 (by simp))
  clear hA0 hval0
  have lt0 : ∀ x ∈ p0, x.block < W.heap.size := fun x hx => by simpa using hW'.lt x (by simp [hx])
  have st0 := fun (W' : World) (hn : Below W.heap.size W W') => Below.trod laidOut (by kernel_rfl) (of_decide_eq_true (by kernel_rfl)) g0 hn lt0
  have lt1 : ∀ x ∈ p1, x.block < W.heap.size := fun x hx => by simpa using hW'.lt x (by simp [hx])
  have st1 := fun (W' : World) (hn : Below W.heap.size W W') => Below.trod laidOut (by kernel_rfl) (of_decide_eq_true (by kernel_rfl)) g1 hn lt1
  have lt2 : ∀ x ∈ p2, x.block < W.heap.size := fun x hx => by simpa using hW'.lt x (by simp [hx])
  have st2 := fun (W' : World) (hn : Below W.heap.size W W') => Below.trod laidOut (by kernel_rfl) (of_decide_eq_true (by kernel_rfl)) g2 hn lt2
  refine (Whole_walk r00 r01 r02 r03 r04 r05 r06 r07 r08 r10 r11 r12 r20 r21 r22 b00 b01 b02 b03 b04 b05 b06 b07 b08 b10 b11 b12 b20 b21 b22 W).mono fun e W' ⟨he, hg⟩ => ?_
  subst he
  exact ⟨_, rfl, _, _, _, [], _, [], hW', trodAll_mk1 (shut_bool Try.underlying4 _), trodAll_mk3 (st0 _ hg) (st1 _ hg) (st2 _ hg), rfl, hg.frame _, fun h => by cases h⟩

theorem proved : Rows.AffineWholeSaid :=
  OpenClaim.holds_of_wide 14 Try.f14 rfl rfl rfl rfl rfl rfl rfl ⟨rfl, rfl, rfl, rfl, rfl⟩ rfl rfl rfl rfl rfl (by kernel_rfl) Try.func14 (by kernel_rfl)
    (of_decide_eq_true (by kernel_rfl)) (by unfold Func.isWrapper; first | (rw [if_pos (by decide +kernel)]; kernel_rfl) | (rw [if_neg (by decide +kernel)]; exact ⟨rfl, rfl⟩))
    (fun os started H enc _ => lifted os started H enc)
end Go.Proofs.Ytgggngcgcpmkbaa.affineWhole
