/- the laws of aead: their seed, bytes.Equal of unlike slices. -/
import Derived.Test.YtjkeaiihjbcfgaaDoorYEL
import Derived.Test.YtjkeaiihjbcfgaaDoorYEJ
import Derived.Test.YtjkeaiihjbcfgaaDoorYPF
import Derived.Lib.Hide
import Derived.Deep.Onto
import Derived.Laws.OwnMore
import Derived.Deep.QuietTactic
import Derived.Laws.BytesString
import Derived.Shelf.Bytes.SlSmallAll
import Derived.Lib.Bytes
namespace Go.Proofs.YtjkeaiihjbcfgaaDoor
set_option linter.unusedVariables false
set_option maxRecDepth 2000
set_option linter.unusedSimpArgs false
open Go.RowKit
/-- a key and a nonce as one struct's cells -/
def seedC2 (kf nf : Nat → Int) : List Value := nums .u8 kf 32 ++ nums .u8 nf 12
theorem seed2_len (kf nf : Nat → Int) : (seedC2 kf nf).length = 44 := by simp [seedC2, nums_length]
theorem seed2_key {D : Nat} {kf nf : Nat → Int} {W : World} (h : Has D 0 (seedC2 kf nf) W) : Has D 0 (nums .u8 kf 32) W := ⟨h.lt, fun j v hj => h.cell j v (by
  have : j < 32 := by have := (List.getElem?_eq_some_iff.1 hj).1; rwa [nums_length] at this
  rw [seedC2, List.getElem?_append_left (by rw [nums_length]; exact this)]; exact hj)⟩
theorem seed2_non {D : Nat} {kf nf : Nat → Int} {W : World} (h : Has D 0 (seedC2 kf nf) W) : Has D 32 (nums .u8 nf 12) W := ⟨h.lt, fun j v hj => by
  have := h.cell (32 + j) v (by
    rw [seedC2, List.getElem?_append_right (by rw [nums_length]; omega), nums_length, Nat.add_sub_cancel_left]; exact hj)
  rwa [Nat.zero_add] at this⟩
theorem str_inj {f g : Nat → Int} {n : Nat} (hf : ∀ i, i < n → inB (f i)) (hg : ∀ i, i < n → inB (g i)) (h : strOfNums ((List.range n).map f) = strOfNums ((List.range n).map g)) : ∀ i, i < n → f i = g i := fun i hi => by
  have h1 := congrArg (fun s : ByteArray => s.data.toList) h
  simp only [strOfNums_data, List.map_map] at h1
  have h2 := congrArg (fun l : List UInt8 => l[i]?) h1
  simp only [List.getElem?_map, List.getElem?_range hi, Option.map_some, Option.some.injEq, Function.comp] at h2
  have h3 := congrArg UInt8.toNat h2
  have a := hf i hi; have b := hg i hi
  unfold inB at a b
  simp only [UInt8.toNat_ofNat'] at h3
  omega
theorem Equal2_any (q1 q2 : Option Addr) (n c1 c2 : Nat) (f g : Nat → Int) (hf : ∀ i, i < n → inB (f i)) (hg : ∀ i, i < n → inB (g i)) (w : World) (h1 : Byt w q1 n f) (h2 : Byt w q2 n g) : Calls Tryd.prog 17 #[.slice q1 n c1, .slice q2 n c2] w fun e w' => e = .returned (.bool (eqB f g n)) ∧ Below w.heap.size w w' := by
  cases hz : eqB f g n with
  | true => exact Equal_any q1 q2 n c1 c2 f w h1 (byt_congr h2 fun j hj => (of_decide_eq_true hz j hj).symm)
  | false =>
    have e1 := conv_any q1 n c1 f w h1
    have e2 := conv_any q2 n c2 g w h2
    have ne : ¬ strOfNums ((List.range n).map f) = strOfNums ((List.range n).map g) := fun h => by
      have := eqB_congr (str_inj hf hg h)
      rw [hz] at this
      cases this
    have ne2 : ¬ (strOfNums ((List.range n).map f)).toList = (strOfNums ((List.range n).map g)).toList := fun h => ne (by
      rw [Lib.toList_data, Lib.toList_data] at h
      exact ByteArray.ext (Array.toList_inj.mp h))
    generalize strOfNums ((List.range n).map f) = S at *
    generalize strOfNums ((List.range n).map g) = S2 at *
    clear h1 h2 hz hf hg
    go_enter Tryd.func17, Tryd.ntmps17
    go_wp2_with (fail)
    go_ret
    exact ⟨by first | rfl | simp [ne, ne2], Below.refl _ _⟩
end Go.Proofs.YtjkeaiihjbcfgaaDoor
