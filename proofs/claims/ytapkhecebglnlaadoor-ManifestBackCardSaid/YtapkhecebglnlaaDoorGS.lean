/- bytes.Equal of any two slices of bytes. -/
import Derived.Test.YtapkhecebglnlaaDoorGP
import Derived.Test.YtapkhecebglnlaaDoorCT
import Derived.Test.YtapkhecebglnlaaDoorCW
import Derived.Lib.Hide
import Derived.Deep.Onto
import Derived.Laws.OwnMore
import Derived.Laws.BytesString
import Derived.Shelf.Bytes.SlSmallAll
import Derived.Lib.Bytes
namespace Go.Proofs.YtapkhecebglnlaaDoor
set_option linter.unusedVariables false
set_option maxRecDepth 2000
set_option linter.unusedSimpArgs false
open Go.RowKit
theorem strg_inj {f g : Nat → Int} {n : Nat} (hf : ∀ i, i < n → inB (f i)) (hg : ∀ i, i < n → inB (g i)) (h : strOfNums ((List.range n).map f) = strOfNums ((List.range n).map g)) : ∀ i, i < n → f i = g i := fun i hi => by
  have h1 := congrArg (fun s : ByteArray => s.data.toList) h
  simp only [strOfNums_data, List.map_map] at h1
  have h2 := congrArg (fun l : List UInt8 => l[i]?) h1
  simp only [List.getElem?_map, List.getElem?_range hi, Option.map_some, Option.some.injEq, Function.comp] at h2
  have h3 := congrArg UInt8.toNat h2
  have a := hf i hi; have b := hg i hi
  unfold inB at a b
  simp only [UInt8.toNat_ofNat'] at h3
  omega
theorem EqualG_any (q1 q2 : Option Addr) (n c1 c2 : Nat) (f g : Nat → Int) (hf : ∀ i, i < n → inB (f i)) (hg : ∀ i, i < n → inB (g i)) (w : World) (h1 : Byt w q1 n f) (h2 : Byt w q2 n g) : Calls Tryd.prog 17 #[.slice q1 n c1, .slice q2 n c2] w fun e w' => e = .returned (.bool (gqB f g n)) ∧ Below w.heap.size w w' := by
  cases hz : gqB f g n with
  | true => exact Equal_any q1 q2 n c1 c2 f w h1 (byt_congr h2 fun j hj => (of_decide_eq_true hz j hj).symm)
  | false =>
    have e1 := conv_any q1 n c1 f w h1
    have e2 := conv_any q2 n c2 g w h2
    have ne : ¬ strOfNums ((List.range n).map f) = strOfNums ((List.range n).map g) := fun h => by
      have := gqB_congr (strg_inj hf hg h)
      rw [hz] at this
      cases this
    have ne2 : ¬ (strOfNums ((List.range n).map f)).toList = (strOfNums ((List.range n).map g)).toList := fun h => ne (by
      rw [Lib.toList_data, Lib.toList_data] at h
      exact ByteArray.ext (Array.toList_inj.mp h))
    generalize strOfNums ((List.range n).map f) = S at *
    generalize strOfNums ((List.range n).map g) = S2 at *
    clear h1 h2 hz hf hg
    go_enter Tryd.func17, Tryd.ntmps17
    go_wp2_with (fail)
    go_ret
    exact ⟨by first | rfl | simp [ne, ne2], Below.refl _ _⟩
theorem EqualH_any (q1 q2 : Option Addr) (n m c1 c2 : Nat) (f g : Nat → Int) (hf : ∀ i, i < n → inB (f i)) (hg : ∀ i, i < m → inB (g i)) (w : World) (h1 : Byt w q1 n f) (h2 : Byt w q2 m g) : Calls Tryd.prog 17 #[.slice q1 n c1, .slice q2 m c2] w fun e w' => e = .returned (.bool (decide (n = m) && gqB f g n)) ∧ Below w.heap.size w w' := by
  by_cases hnm : n = m
  · subst hnm
    rw [decide_eq_true rfl, Bool.true_and]
    exact EqualG_any q1 q2 n c1 c2 f g hf hg w h1 h2
  · rw [decide_eq_false hnm, Bool.false_and]
    have e1 := conv_any q1 n c1 f w h1
    have e2 := conv_any q2 m c2 g w h2
    have ne : ¬ strOfNums ((List.range n).map f) = strOfNums ((List.range m).map g) := fun h => by
      have h1 := congrArg (fun s : ByteArray => s.data.toList.length) h
      simp only [strOfNums_data, List.length_map, List.length_range] at h1
      exact hnm h1
    have ne2 : ¬ (strOfNums ((List.range n).map f)).toList = (strOfNums ((List.range m).map g)).toList := fun h => ne (by
      rw [Lib.toList_data, Lib.toList_data] at h
      exact ByteArray.ext (Array.toList_inj.mp h))
    generalize strOfNums ((List.range n).map f) = S at *
    generalize strOfNums ((List.range m).map g) = S2 at *
    clear h1 h2 hf hg
    go_enter Tryd.func17, Tryd.ntmps17
    go_wp2_with (fail)
    go_ret
    exact ⟨by first | rfl | simp [ne, ne2], Below.refl _ _⟩
end Go.Proofs.YtapkhecebglnlaaDoor
