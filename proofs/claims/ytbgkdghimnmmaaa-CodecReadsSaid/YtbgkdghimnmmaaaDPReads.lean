/- umbralaw11.CodecReads answers true whatever bytes and questions it is given, and leaves its arguments as they were: no condition. -/
import Derived.Test.YtbgkdghimnmmaaaRows
import Derived.Test.YtbgkdghimnmmaaaPC
import Derived.Test.YtbgkdghimnmmaaaDR
import Derived.Test.YtbgkdghimnmmaaaPE
import Derived.Test.YtbgkdghimnmmaaaPF
import Derived.Test.YtbgkdghimnmmaaaPS
import Derived.Test.YtbgkdghimnmmaaaPJ
import Derived.Test.YtbgkdghimnmmaaaDP
import Derived.Test.YtbgkdghimnmmaaaDPb
import Derived.WalkKit
import Derived.ProofKit
import Derived.OpenShut
import Derived.ChangeSlices
import Derived.Lib.SmallJoins
namespace Go.Proofs.Ytbgkdghimnmmaaa.codecReads
set_option linter.unusedVariables false
set_option maxRecDepth 2000
open Go.ChangeShapes Go.WideShapes Go.ChangeAt Go.RowKit Go.Joins

theorem own : ownKnob Try.prog.godebug = none := by kernel_rfl
theorem laidOut : laidOutB Try.prog = true := by kernel_rfl

set_option maxRecDepth 100000 in
theorem lifted (os : Os) (started : os.Started) (H : Type) (enc : TypeId × Value → H) :
    ReturnsInHanded {} Try.checked os 4 .any (Rows.codecReadsSpec.pre6 enc Try.prog Try.f4 Rows.codecReadsRow.domain false) (Rows.codecReadsSpec.post enc Try.prog Try.f4 false true false false) := by
  refine returnsInHanded_of_change (C := Try.checked) own started (by kernel_rfl) Try.func4
    (ChangeSpec.witness6 (enc := enc) (C := Try.checked) false ⟨#[], #[.slice none 0 0, .slice none 0 0], []⟩ 8 (by kernel_rfl) (by kernel_rfl) (by kernel_rfl) (by kernel_rfl)) ?_
  intro W base args ds gs before hval0 hW _ _
  have hval : ∀ (j : Nat) t v, Try.f4.params[j]? = some t → args[j]? = some v → Value.okWide Try.prog W .any base t v := hval0
  have hW' := hW
  obtain ⟨p, q, hA0, hV, rfl, _, _⟩ := hW
  have hA : DataW.TrodAll enc Try.prog W 0 (fun _ => true) true Try.f4.params.toList args.toList ds p := hA0
  rw [Try.params4] at hA hval
  obtain ⟨v0, v1, d0, d1, p0, p1, rfl, rfl, rfl, g0, g1⟩ := trodAll_two hA
  obtain ⟨rfl, rfl⟩ := trodVars_none hV
  simp only [List.append_nil] at hW'
  clear hA0
  have lt0 : ∀ x ∈ p0, x.block < W.heap.size := fun x hx => by simpa using hW'.lt x (by simp [hx])
  have st0 := fun (W' : World) (hn : Below W.heap.size W W') => Below.trod laidOut (by kernel_rfl) (of_decide_eq_true (by kernel_rfl)) g0 hn lt0
  have lt1 : ∀ x ∈ p1, x.block < W.heap.size := fun x hx => by simpa using hW'.lt x (by simp [hx])
  have st1 := fun (W' : World) (hn : Below W.heap.size W W') => Below.trod laidOut (by kernel_rfl) (of_decide_eq_true (by kernel_rfl)) g1 hn lt1
  obtain ⟨p0_, n0, c0, f0, rfl, sl0⟩ := open_sl (S := 1) isB Try.underlying22 (by kernel_rfl) (by decide) (fun fuel cs x hx hl => cs_byte hx) (hval 0 22 v0 rfl rfl) g0 lt0
  obtain ⟨p1_, n1, c1, f1, rfl, sl1⟩ := open_sl (S := 2) isAsk Try.underlying36 (by kernel_rfl) (by decide) (fun fuel cs x hx hl => cs_ask hx) (hval 1 36 v1 rfl rfl) g1 lt1
  obtain ⟨f, hby, hfb⟩ := sl_byt sl0
  obtain ⟨gx, gy, hask, hgy⟩ := sl_ask sl1
  obtain ⟨m, hm⟩ : ∃ m, m = min n0 200 := ⟨_, rfl⟩
  clear hval hval0
  refine (Reads_law f gx gy p0_ p1_ n0 c0 n1 c1 m (by omega) (fun j hj => hfb j (by omega)) hgy sl0.le sl0.max sl1.le sl1.max W (byt_take hby (by omega)) hask).mono fun e W' ⟨he, hg⟩ => ?_
  subst he
  exact ⟨_, rfl, _, _, _, [], _, [], hW', trodAll_mk1 (shut_bool Try.underlying4 _), trodAll_mk2 (st0 _ hg) (st1 _ hg), rfl, hg.frame _, fun h => by cases h⟩

theorem proved : Rows.CodecReadsSaid :=
  OpenClaim.holds_of_wide 4 Try.f4 rfl rfl rfl rfl rfl rfl rfl ⟨rfl, rfl, rfl, rfl, rfl⟩ rfl rfl rfl rfl rfl (by kernel_rfl) Try.func4 (by kernel_rfl)
    (of_decide_eq_true (by kernel_rfl)) (by unfold Func.isWrapper; first | (rw [if_pos (by decide +kernel)]; kernel_rfl) | (rw [if_neg (by decide +kernel)]; exact ⟨rfl, rfl⟩))
    (fun os started H enc _ => lifted os started H enc)
end Go.Proofs.Ytbgkdghimnmmaaa.codecReads
