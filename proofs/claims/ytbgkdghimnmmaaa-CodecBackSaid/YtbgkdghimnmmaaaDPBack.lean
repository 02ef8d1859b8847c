/- umbralaw11.CodecBack answers true whatever numbers and width it is given, and leaves its arguments as they were: no condition. -/
import Derived.Test.YtbgkdghimnmmaaaRows
import Derived.Test.YtbgkdghimnmmaaaPC
import Derived.Test.YtbgkdghimnmmaaaDS
import Derived.Test.YtbgkdghimnmmaaaPE
import Derived.Test.YtbgkdghimnmmaaaPF
import Derived.Test.YtbgkdghimnmmaaaPS
import Derived.Test.YtbgkdghimnmmaaaPJ
import Derived.Test.YtbgkdghimnmmaaaDP
import Derived.WalkKit
import Derived.ProofKit
import Derived.OpenShut
import Derived.ChangeSlices
import Derived.Lib.SmallJoins
namespace Go.Proofs.Ytbgkdghimnmmaaa.codecBack
set_option linter.unusedVariables false
set_option maxRecDepth 2000
open Go.ChangeShapes Go.WideShapes Go.ChangeAt Go.RowKit Go.Joins

theorem own : ownKnob Try.prog.godebug = none := by kernel_rfl
theorem laidOut : laidOutB Try.prog = true := by kernel_rfl

set_option maxRecDepth 100000 in
theorem lifted (os : Os) (started : os.Started) (H : Type) (enc : TypeId × Value → H) :
    ReturnsInHanded {} Try.checked os 5 .any (Rows.codecBackSpec.pre6 enc Try.prog Try.f5 Rows.codecBackRow.domain false) (Rows.codecBackSpec.post enc Try.prog Try.f5 false true false false) := by
  refine returnsInHanded_of_change (C := Try.checked) own started (by kernel_rfl) Try.func5
    (ChangeSpec.witness6 (enc := enc) (C := Try.checked) false ⟨#[], #[.slice none 0 0, .slice none 0 0, .int .i64 0], []⟩ 8 (by kernel_rfl) (by kernel_rfl) (by kernel_rfl) (by kernel_rfl)) ?_
  intro W base args ds gs before hval0 hW _ _
  have hval : ∀ (j : Nat) t v, Try.f5.params[j]? = some t → args[j]? = some v → Value.okWide Try.prog W .any base t v := hval0
  have hW' := hW
  obtain ⟨p, q, hA0, hV, rfl, _, _⟩ := hW
  have hA : DataW.TrodAll enc Try.prog W 0 (fun _ => true) true Try.f5.params.toList args.toList ds p := hA0
  rw [Try.params5] at hA hval
  obtain ⟨v0, v1, v2, d0, d1, d2, p0, p1, p2, rfl, rfl, rfl, g0, g1, g2⟩ := trodAll_three hA
  obtain ⟨rfl, rfl⟩ := trodVars_none hV
  simp only [List.append_nil] at hW'
  have g2k := g2
  obtain ⟨a2, rfl, hd2, hp2, w2⟩ := open_int Try.underlying3 (hval 2 3 v2 rfl rfl) g2
  have b2 := i64_wfc w2
  clear hA0
  have lt0 : ∀ x ∈ p0, x.block < W.heap.size := fun x hx => by simpa using hW'.lt x (by simp [hx])
  have st0 := fun (W' : World) (hn : Below W.heap.size W W') => Below.trod laidOut (by kernel_rfl) (of_decide_eq_true (by kernel_rfl)) g0 hn lt0
  have lt1 : ∀ x ∈ p1, x.block < W.heap.size := fun x hx => by simpa using hW'.lt x (by simp [hx])
  have st1 := fun (W' : World) (hn : Below W.heap.size W W') => Below.trod laidOut (by kernel_rfl) (of_decide_eq_true (by kernel_rfl)) g1 hn lt1
  have lt2 : ∀ x ∈ p2, x.block < W.heap.size := fun x hx => by simpa using hW'.lt x (by simp [hx])
  have st2 := fun (W' : World) (hn : Below W.heap.size W W') => Below.trod laidOut (by kernel_rfl) (of_decide_eq_true (by kernel_rfl)) g2 hn lt2
  obtain ⟨p0_, n0, c0, f0, rfl, sl0⟩ := open_sl (S := 1) isQ Try.underlying23 (by kernel_rfl) (by decide) (fun fuel cs x hx hl => cs_q hx) (hval 0 23 v0 rfl rfl) g0 lt0
  obtain ⟨p1_, n1, c1, f1, rfl, sl1⟩ := open_sl (S := 1) isI Try.underlying29 (by kernel_rfl) (by decide) (fun fuel cs x hx hl => cs_i hx) (hval 1 29 v1 rfl rfl) g1 lt1
  obtain ⟨g, hnm, hgb⟩ := sl_nm (B := fun z => 0 ≤ z ∧ z ≤ 18446744073709551615) sl0
  obtain ⟨s, hsm, hsb⟩ := sl_nm (B := fun z => -9223372036854775808 ≤ z ∧ z ≤ 9223372036854775807) sl1
  obtain ⟨n, hn⟩ : ∃ m, m = min n0 10 := ⟨_, rfl⟩
  obtain ⟨m, hm⟩ : ∃ m, m = min n1 10 := ⟨_, rfl⟩
  clear hval hval0
  refine (Back_law g s p0_ p1_ a2 n0 c0 n1 c1 n m (by omega) (by omega) (fun k hk => hgb k (by omega)) (fun k hk => hsb k (by omega)) sl0.le sl0.max sl1.le sl1.max W (nm_take hnm (by omega)) (nm_take hsm (by omega))).mono fun e W' ⟨he, hg⟩ => ?_
  subst he
  exact ⟨_, rfl, _, _, _, [], _, [], hW', trodAll_mk1 (shut_bool Try.underlying4 _), trodAll_mk3 (st0 _ hg) (st1 _ hg) (st2 _ hg), rfl, hg.frame _, fun h => by cases h⟩

theorem proved : Rows.CodecBackSaid :=
  OpenClaim.holds_of_wide 5 Try.f5 rfl rfl rfl rfl rfl rfl rfl ⟨rfl, rfl, rfl, rfl, rfl⟩ rfl rfl rfl rfl rfl (by kernel_rfl) Try.func5 (by kernel_rfl)
    (of_decide_eq_true (by kernel_rfl)) (by unfold Func.isWrapper; first | (rw [if_pos (by decide +kernel)]; kernel_rfl) | (rw [if_neg (by decide +kernel)]; exact ⟨rfl, rfl⟩))
    (fun os started H enc _ => lifted os started H enc)
end Go.Proofs.Ytbgkdghimnmmaaa.codecBack
