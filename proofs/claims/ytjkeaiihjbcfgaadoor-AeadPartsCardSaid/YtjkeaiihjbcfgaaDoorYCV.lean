/- ChachaBack: the walk. -/
import Derived.Test.YtjkeaiihjbcfgaaDoorYCU
import Derived.Test.YtjkeaiihjbcfgaaDoorYCR
import Derived.Deep.Onto
namespace Go.Proofs.YtjkeaiihjbcfgaaDoor
set_option linter.unusedVariables false
set_option maxRecDepth 2000
set_option linter.unusedSimpArgs false
open Go.RowKit
attribute [local go_sem ↓ high] sliced_head sliced_one
/-- a slice of n bytes of f -/
def RowR (w : World) (v : Value) (n : Nat) (f : Nat → Int) : Prop := ∃ q c, v = .slice q n c ∧ n ≤ c ∧ c ≤ 9223372036854775807 ∧ Byt w q n f
theorem RowR.later {w w' : World} {B : Nat} {v : Value} {n : Nat} {f : Nat → Int} (h : RowR w v n f) (hb : Below B w w') (hB : w.heap.size ≤ B) : RowR w' v n f := by
  obtain ⟨q, c, h1, h2, h3, h4⟩ := h
  exact ⟨q, c, h1, h2, h3, h4.later (hb.mono hB)⟩
theorem RowR.of {w : World} {base n : Nat} {e : TypeId} {v : Value} {f : Nat → Int} (h : w.ownsRow base e 1 v n (nums .u8 f n)) : RowR w v n f := by
  obtain ⟨q, c, rfl, hc⟩ := row_form h
  refine ⟨q, c, rfl, hc, ?_, (byt_row h).2⟩
  rcases h.2 with ⟨h0, _⟩ | ⟨g, cap, cur, h0, _, _, _, hm, _⟩
  · cases h0; decide
  · cases h0; unfold maxLen at hm; omega
/-- one part -/
def T1 (m k : Nat) : Nat := if k = 0 then 0 else m
theorem parts_one {w : World} {S m : Nat} {v : Value} {f : Nat → Int} (h : Own S [v] w) (hr : RowR w v m f) : Parts w (some ⟨S, 0, none⟩) 1 f (T1 m) := fun k hk => by
  obtain rfl : k = 0 := by omega
  obtain ⟨q, c, rfl, h2, h3, h4⟩ := hr
  refine ⟨S, 0, q, m, c, rfl, h.lt, h.at 0 _ rfl, h2, h3, ?_, ?_⟩
  · simp [T1]
  · simpa [T1] using h4
theorem Xor_one (kf nf : Nat → Int) (c : Int) (S m : Nat) (v : Value) (g : Nat → Int) (hm : m ≤ 65536) (hk : ∀ i, i < 32 → inB (kf i)) (hn : ∀ i, i < 12 → inB (nf i)) (hc : in32 c) (w : World) (hg : Has 0 0 GL w) (h : Own S [v] w) (hr : RowR w v m g) :
    Calls Tryd.prog 22 #[(.agg (nums .u8 kf 32).toArray), .int .u32 c, (.agg (nums .u8 nf 12).toArray), .slice (some ⟨S, 0, none⟩) 1 1] w fun e w' => ∃ v, e = .returned v ∧ RowR w' v m (fun j => xorB (g j) (strF kf c nf j)) ∧ Below w.heap.size w w' := by
  refine (Xor_any kf nf c (some ⟨S, 0, none⟩) 1 1 g (T1 m) rfl (fun k hk => ?_) (Nat.le_refl _) (by decide) hk hn hc w hg (parts_one h hr)).mono ?_
  · unfold T1
    split
    · exact Nat.zero_le _
    · exact hm
  · rintro e w' ⟨v', rfl, h1, h2⟩
    exact ⟨v', rfl, RowR.of h1, h2⟩
theorem Xor_two (kf nf : Nat → Int) (c : Int) (S m : Nat) (v : Value) (g : Nat → Int) (hgb : ∀ j, j < m → inB (g j)) (hm : m ≤ 65536) (hk : ∀ i, i < 32 → inB (kf i)) (hn : ∀ i, i < 12 → inB (nf i)) (hc : in32 c) (w : World) (hg : Has 0 0 GL w) (h : Own S [v] w) (hr : RowR w v m (fun j => xorB (g j) (strF kf c nf j))) :
    Calls Tryd.prog 22 #[(.agg (nums .u8 kf 32).toArray), .int .u32 c, (.agg (nums .u8 nf 12).toArray), .slice (some ⟨S, 0, none⟩) 1 1] w fun e w' => ∃ v, e = .returned v ∧ RowR w' v m g ∧ Below w.heap.size w w' := by
  refine (Xor_one kf nf c S m v (fun j => xorB (g j) (strF kf c nf j)) hm hk hn hc w hg h hr).mono ?_
  rintro e w' ⟨v', rfl, ⟨q', c', h1, h2, h3, h4⟩, h5⟩
  refine ⟨v', rfl, ⟨q', c', h1, h2, h3, ?_⟩, h5⟩
  rcases h4 with h4 | ⟨b, off, h6, h7⟩
  · exact .inl h4
  · refine .inr ⟨b, off, h6, ?_⟩
    rwa [show nums .u8 (fun j => xorB (xorB (g j) (strF kf c nf j)) (strF kf c nf j)) m = nums .u8 g m from nums_congr _ fun j hj => xorB_back (hgb j hj) (in_strF kf c nf j)] at h7

end Go.Proofs.YtjkeaiihjbcfgaaDoor
