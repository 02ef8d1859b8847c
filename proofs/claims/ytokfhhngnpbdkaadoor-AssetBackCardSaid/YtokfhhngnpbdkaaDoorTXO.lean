/- texture: the walk of TextureBack. -/
import Derived.Test.YtokfhhngnpbdkaaDoorTXD
import Derived.Test.YtokfhhngnpbdkaaDoorMB0
import Derived.Lib.Hide
import Derived.LoopN
import Derived.LoopTactic
import Derived.Deep.Onto
import Derived.Deep.RegionHeld3
import Derived.Deep.QuietTactic
import Derived.BigQuiet
namespace Go.Proofs.YtokfhhngnpbdkaaDoor
set_option linter.unusedVariables false
set_option maxRecDepth 2000
set_option linter.unusedSimpArgs false
open Go.RowKit
theorem encT_0 (S : Int) (f : Nat → Int) : encT S f 0 = S := rfl
theorem encT_1 (S : Int) (f : Nat → Int) (j : Nat) : encT S f (1 + j) = f j := by
  unfold encT
  rw [if_neg (by omega), show 1 + j - 1 = j by omega]
theorem valN_w1 {F : Nat → Int} {N t : Nat} (h : t + 1 ≤ N) : valN F N t 1 = F t := by
  unfold valN
  rw [if_pos h]
  exact leN_w1 _
/-- what is encoded is decoded -/
theorem tenc_dec {S : Int} {n : Nat} {f : Nat → Int} (h : chkT S n f = 0) : tdecE (encT S f) (1 + n * 3) = 0 ∧ ∀ Z, DecO (encT S f) (1 + n * 3) Z → S = Z.S ∧ n = Z.n ∧ ∀ j, j < n * 3 → f j = Z.f j := by
  have g := tchk_good h
  obtain ⟨s, rfl, hs, hn⟩ := g.cnt
  have e1 : sdN (encT s f) (1 + n * 3) = s := by
    unfold sdN
    rw [valN_w1 (by omega), encT_0]
    rfl
  have en : needT (encT s f) (1 + n * 3) = 1 + n * 3 := by unfold needT; rw [e1, ← hn]
  have ez : tdecE (encT s f) (1 + n * 3) = 0 := by
    rw [dec_c en.symm, e1, ← hn]
    refine Eq.trans (tchk_congr fun j hj => ?_) h
    exact encT_1 _ _ _
  refine ⟨ez, fun Z hZ => ?_⟩
  have ed : dcS (encT s f) (1 + n * 3) = s := by unfold dcS; rw [if_pos ez, e1]
  refine ⟨by rw [hZ.S, ed], by rw [hZ.n, ed, ← hn], fun j hj => ?_⟩
  rw [hZ.f j (by rw [hZ.n, ed, ← hn]; exact hj), encT_1]
theorem tenc_in {S : Int} {n : Nat} {f : Nat → Int} (h : chkT S n f = 0) : ∀ j, j < 1 + n * 3 → inB (encT S f j) := by
  have g := tchk_good h
  intro j hj
  unfold encT inB
  split
  · rcases g.s with e | e | e | e | e <;> omega
  · have := g.v (j - 1) (by omega)
    omega
/-- what is decoded is encoded -/
theorem tdec_enc {F : Nat → Int} {N : Nat} {Z : Txr} (h : tdecE F N = 0) (hF : ∀ j, j < N → inB (F j)) (hZ : DecO F N Z) : chkT Z.S Z.n Z.f = 0 ∧ 1 + Z.n * 3 = N ∧ ∀ j, j < N → encT Z.S Z.f j = F j := by
  have ed : dcS F N = sdN F N := by unfold dcS; rw [if_pos h]
  have eN : N = needT F N := by
    rcases Nat.lt_trichotomy N (needT F N) with h1 | h1 | h1
    · rw [dec_4 h1] at h; omega
    · exact h1
    · rw [dec_5 h1] at h; omega
  have eS := hZ.S; have en := hZ.n
  rw [ed] at eS en
  have eN2 : N = 1 + Z.n * 3 := by rw [en]; exact eN
  have h2 := h
  rw [dec_c eN, ← en, ← eS] at h2
  refine ⟨Eq.trans (tchk_congr hZ.f) h2, eN2.symm, fun j hj => ?_⟩
  unfold encT
  split
  · rename_i h0
    subst h0
    rw [eS, ← (sdN_val hF).1, valN_w1 (by omega)]
  · rw [hZ.f _ (by omega), show 1 + (j - 1) = j by omega]
attribute [local go_sem ↓ high] sliced_head
end Go.Proofs.YtokfhhngnpbdkaaDoor

