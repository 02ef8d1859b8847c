/- VecSums returns true for every slice of vectors and every two vectors, and leaves the slice as it was: any vectors have the sum and the product that the document says, any two its difference. No condition. -/
import Derived.Test.YtalclbngpimajaaRows
import Derived.Test.YtalclbngpimajaaVQ
import Derived.Test.YtalclbngpimajaaVR
import Derived.WalkKit
import Derived.ProofKit
import Derived.OpenShut
import Derived.ChangeSlices
import Derived.Lib.SmallJoins
namespace Go.Proofs.Ytalclbngpimajaa.vecSums
set_option linter.unusedVariables false
set_option maxRecDepth 2000
open Go.ChangeShapes Go.WideShapes Go.ChangeAt Go.RowKit Go.Joins

theorem own : ownKnob Try.prog.godebug = none := by kernel_rfl
theorem laidOut : laidOutB Try.prog = true := by kernel_rfl
theorem cellsVec : Try.prog.cellsOf 25 = 3 := by kernel_rfl

set_option maxRecDepth 100000 in
theorem lifted (os : Os) (started : os.Started) (H : Type) (enc : TypeId × Value → H) :
    ReturnsInHanded {} Try.checked os 3 .any (Rows.vecSumsSpec.pre6 enc Try.prog Try.f3 Rows.vecSumsRow.domain false) (Rows.vecSumsSpec.post enc Try.prog Try.f3 false true false false) := by
  refine returnsInHanded_of_change (C := Try.checked) own started (by kernel_rfl) Try.func3
    (ChangeSpec.witness6 (enc := enc) (C := Try.checked) false ⟨#[], #[.slice none 0 0, .agg #[.int .i64 0, .int .i64 0, .int .i64 0], .agg #[.int .i64 0, .int .i64 0, .int .i64 0]], []⟩ 8 (by kernel_rfl) (by kernel_rfl) (by kernel_rfl) (by kernel_rfl)) ?_
  intro W base args ds gs before hval0 hW _ _
  have hval : ∀ (j : Nat) t v, Try.f3.params[j]? = some t → args[j]? = some v → Value.okWide Try.prog W .any base t v := hval0
  have hW' := hW
  obtain ⟨p, q, hA0, hV, rfl, _, _⟩ := hW
  have hA : DataW.TrodAll enc Try.prog W 0 (fun _ => true) true Try.f3.params.toList args.toList ds p := hA0
  rw [Try.params3] at hA hval
  obtain ⟨v0, v1, v2, d0, d1, d2, p0, p1, p2, rfl, rfl, rfl, h0, g1, g2⟩ := trodAll_three hA
  obtain ⟨rfl, rfl⟩ := trodVars_none hV
  obtain ⟨x10, x11, x12, y10, y11, y12, m1, rfl, rfl, rfl, hy10, hy11, hy12⟩ := open_agg3 Try.underlying25 (by kernel_rfl) cellsVec (hval 1 25 v1 rfl rfl) g1
  obtain ⟨c10, e10, rfl, w10⟩ := DataW.trod_int Try.underlying23 hy10
  obtain ⟨c11, e11, rfl, w11⟩ := DataW.trod_int Try.underlying23 hy11
  obtain ⟨c12, e12, rfl, w12⟩ := DataW.trod_int Try.underlying23 hy12
  simp at e10 e11 e12
  subst e10 e11 e12
  obtain ⟨x20, x21, x22, y20, y21, y22, m2, rfl, rfl, rfl, hy20, hy21, hy22⟩ := open_agg3 Try.underlying25 (by kernel_rfl) cellsVec (hval 2 25 v2 rfl rfl) g2
  obtain ⟨c20, e20, rfl, w20⟩ := DataW.trod_int Try.underlying23 hy20
  obtain ⟨c21, e21, rfl, w21⟩ := DataW.trod_int Try.underlying23 hy21
  obtain ⟨c22, e22, rfl, w22⟩ := DataW.trod_int Try.underlying23 hy22
  simp at e20 e21 e22
  subst e20 e21 e22
  have h0k := h0
  obtain ⟨a0, len, cap, rfl⟩ := okWide_slice Try.underlying22 (hval 0 22 v0 rfl rfl)
  obtain ⟨fuel, hf⟩ := h0
  clear hA0 hval0
  simp only [List.append_nil] at hW'
  have hlt : ∀ x ∈ p0, x.block < W.heap.size := fun x hx => by simpa using hW'.lt x (by simpa using hx)
  have hargs : ∀ (W' : World), Below W.heap.size W W' → DataW.Trod enc Try.prog W' 0 (fun b => decide (b < W.heap.size)) true 22 (.slice a0 len cap) d0 p0 :=
    fun W' hn => Below.trod laidOut (by kernel_rfl) (of_decide_eq_true (by kernel_rfl)) h0k hn hlt
  have b10 : -9223372036854775808 ≤ c10 ∧ c10 ≤ 9223372036854775807 := by simpa [Lit.wf, IntKind.min, IntKind.max, IntKind.signed, IntKind.bits] using w10
  have b11 : -9223372036854775808 ≤ c11 ∧ c11 ≤ 9223372036854775807 := by simpa [Lit.wf, IntKind.min, IntKind.max, IntKind.signed, IntKind.bits] using w11
  have b12 : -9223372036854775808 ≤ c12 ∧ c12 ≤ 9223372036854775807 := by simpa [Lit.wf, IntKind.min, IntKind.max, IntKind.signed, IntKind.bits] using w12
  have st1 : ∀ (W' : World) (sp : Nat → Bool), DataW.Trod enc Try.prog W' 0 sp true 25 (.agg #[.int .i64 c10, .int .i64 c11, .int .i64 c12]) (.agg [.lit (.int .i64 c10), .lit (.int .i64 c11), .lit (.int .i64 c12)]) [] := fun W' sp =>
    shut_agg3 (y0 := (.lit (.int .i64 c10), [])) (y1 := (.lit (.int .i64 c11), [])) (y2 := (.lit (.int .i64 c12), [])) Try.underlying25 (by kernel_rfl) cellsVec ⟨1, by simp [DataW.trod, Try.underlying23, w10]⟩ ⟨1, by simp [DataW.trod, Try.underlying23, w11]⟩ ⟨1, by simp [DataW.trod, Try.underlying23, w12]⟩
  have b20 : -9223372036854775808 ≤ c20 ∧ c20 ≤ 9223372036854775807 := by simpa [Lit.wf, IntKind.min, IntKind.max, IntKind.signed, IntKind.bits] using w20
  have b21 : -9223372036854775808 ≤ c21 ∧ c21 ≤ 9223372036854775807 := by simpa [Lit.wf, IntKind.min, IntKind.max, IntKind.signed, IntKind.bits] using w21
  have b22 : -9223372036854775808 ≤ c22 ∧ c22 ≤ 9223372036854775807 := by simpa [Lit.wf, IntKind.min, IntKind.max, IntKind.signed, IntKind.bits] using w22
  have st2 : ∀ (W' : World) (sp : Nat → Bool), DataW.Trod enc Try.prog W' 0 sp true 25 (.agg #[.int .i64 c20, .int .i64 c21, .int .i64 c22]) (.agg [.lit (.int .i64 c20), .lit (.int .i64 c21), .lit (.int .i64 c22)]) [] := fun W' sp =>
    shut_agg3 (y0 := (.lit (.int .i64 c20), [])) (y1 := (.lit (.int .i64 c21), [])) (y2 := (.lit (.int .i64 c22), [])) Try.underlying25 (by kernel_rfl) cellsVec ⟨1, by simp [DataW.trod, Try.underlying23, w20]⟩ ⟨1, by simp [DataW.trod, Try.underlying23, w21]⟩ ⟨1, by simp [DataW.trod, Try.underlying23, w22]⟩
  rcases open_vecs Try.underlying22 Try.underlying25 (by kernel_rfl) cellsVec Try.underlying23 Try.underlying23 Try.underlying23 hf with hcs | ⟨a, len', cap', hcs, hl, hm, hpl, hel⟩
  · simp [Value.cells] at hcs
    obtain ⟨rfl, rfl, rfl⟩ := hcs
    refine (VSums_none none 0 (by omega) c10 c11 c12 c20 c21 c22 b10 b11 b12 b20 b21 b22 W).mono fun e W' ⟨he, hg⟩ => ?_
    subst he
    exact ⟨_, rfl, _, _, _, [], _, [], hW', trodAll_mk1 (shut_bool Try.underlying4 _), trodAll_mk3 (hargs _ hg) (st1 _ _) (st2 _ _), rfl, hg.frame _, fun h => by cases h⟩
  · simp [Value.cells] at hcs
    obtain ⟨rfl, rfl, rfl⟩ := hcs
    unfold maxLen at hm
    have hm' : cap ≤ 9223372036854775807 := by omega
    by_cases hl0 : len = 0
    · subst hl0
      refine (VSums_none (some a) cap hm' c10 c11 c12 c20 c21 c22 b10 b11 b12 b20 b21 b22 W).mono fun e W' ⟨he, hg⟩ => ?_
      subst he
      exact ⟨_, rfl, _, _, _, [], _, [], hW', trodAll_mk1 (shut_bool Try.underlying4 _), trodAll_mk3 (hargs _ hg) (st1 _ _) (st2 _ _), rfl, hg.frame _, fun h => by cases h⟩
    · obtain ⟨b, off, spot⟩ := a
      have hspot : spot = none := by
        obtain ⟨_, _, _, _, _, _, hc, _⟩ := hel 0 (by omega)
        simpa [Addr.add] using World.cell?_spot hc
      subst hspot
      have hbk : b < W.heap.size := hlt (.cell b off) (hpl (by omega))
      obtain ⟨zs, hz⟩ := vecs_sl hel
      refine (VSums_walk b off len cap zs c10 c11 c12 c20 c21 c22 b10 b11 b12 b20 b21 b22 W hl hm' hbk hz).mono fun e W' ⟨he, hg⟩ => ?_
      subst he
      exact ⟨_, rfl, _, _, _, [], _, [], hW', trodAll_mk1 (shut_bool Try.underlying4 _), trodAll_mk3 (hargs _ hg) (st1 _ _) (st2 _ _), rfl, hg.frame _, fun h => by cases h⟩

theorem proved : Rows.VecSumsSaid :=
  OpenClaim.holds_of_wide 3 Try.f3 rfl rfl rfl rfl rfl rfl rfl ⟨rfl, rfl, rfl, rfl, rfl⟩ rfl rfl rfl rfl rfl (by kernel_rfl) Try.func3 (by kernel_rfl)
    (of_decide_eq_true (by kernel_rfl)) (by unfold Func.isWrapper; first | (rw [if_pos (by decide +kernel)]; kernel_rfl) | (rw [if_neg (by decide +kernel)]; exact ⟨rfl, rfl⟩))
    (fun os started H enc _ => lifted os started H enc)
end Go.Proofs.Ytalclbngpimajaa.vecSums
