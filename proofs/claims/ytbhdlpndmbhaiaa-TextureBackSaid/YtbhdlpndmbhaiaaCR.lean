/- chacha.Xor. -/
import Derived.Test.YtbhdlpndmbhaiaaCQ
import Derived.LoopN
import Derived.LoopTactic
import Derived.Deep.Onto
import Derived.Laws.OwnMore
namespace Go.Proofs.Ytbhdlpndmbhaiaa
set_option linter.unusedVariables false
set_option maxRecDepth 2000
set_option linter.unusedSimpArgs false
open Go.RowKit
def xorB (x y : Int) : Int := bits .xor .u8 x y
theorem xorB_nat (a b : Nat) (ha : a < 256) (hb : b < 256) : xorB (a : Int) (b : Int) = ((a ^^^ b : Nat) : Int) := u8_xor_nat a b ha hb
theorem in_xorB {x y : Int} (hx : inB x) (hy : inB y) : inB (xorB x y) := by
  unfold inB at *
  obtain ⟨a, rfl⟩ := Int.eq_ofNat_of_zero_le hx.1
  obtain ⟨b, rfl⟩ := Int.eq_ofNat_of_zero_le hy.1
  rw [xorB_nat a b (by omega) (by omega)]
  have := Nat.xor_lt_two_pow (n := 8) (x := a) (y := b) (by omega) (by omega)
  omega
theorem xorB_back {x y : Int} (hx : inB x) (hy : inB y) : xorB (xorB x y) y = x := by
  unfold inB at *
  obtain ⟨a, rfl⟩ := Int.eq_ofNat_of_zero_le hx.1
  obtain ⟨b, rfl⟩ := Int.eq_ofNat_of_zero_le hy.1
  have := Nat.xor_lt_two_pow (n := 8) (x := a) (y := b) (by omega) (by omega)
  rw [xorB_nat a b (by omega) (by omega), xorB_nat _ b (by omega) (by omega), Nat.xor_assoc, Nat.xor_self, Nat.xor_zero]
theorem nums_lset (k : IntKind) (f : Nat → Int) (n i : Nat) (v : Int) : (nums k f n).set i (.int k v) = nums k (at1 f i v) n := by
  apply List.ext_getElem?
  intro j
  rw [List.getElem?_set]
  by_cases hj : j < n
  · rw [nums_at _ _ hj, nums_at _ _ hj, nums_length]
    unfold at1
    by_cases h : i = j
    · subst h; simp [hj]
    · rw [if_neg h, if_neg (fun e => h e.symm)]
  · rw [nums_out _ _ (by omega), nums_out _ _ (by omega), nums_length]
    by_cases h : i = j
    · subst h; simp [hj]
    · rw [if_neg h]
/-- the first i bytes combined -/
def mixF (g s : Nat → Int) (i : Nat) : Nat → Int := fun j => if j < i then xorB (g j) (s j) else g j
theorem mix_step (g s : Nat → Int) (i n : Nat) (v : Int) (hv : v = xorB (g i) (s i)) : nums .u8 (at1 (mixF g s i) i v) n = nums .u8 (mixF g s (i + 1)) n := nums_congr _ fun j _ => by
  unfold at1 mixF
  by_cases h : j = i
  · rw [if_pos h, if_pos (by omega), h]; exact hv
  · rw [if_neg h]
    by_cases h2 : j < i
    · rw [if_pos h2, if_pos (by omega)]
    · rw [if_neg h2, if_neg (by omega)]
theorem mix_all (g s : Nat → Int) (n : Nat) : nums .u8 (mixF g s n) n = nums .u8 (fun j => xorB (g j) (s j)) n := nums_congr _ fun _ hj => if_pos hj
theorem row_blk {w : World} {base size n : Nat} {e : TypeId} {v : Value} {xs : List Value} (h : w.ownsRow base e size v n xs) (hn : 0 < n) : ∃ X c, v = .slice (some ⟨X, 0, none⟩) n c ∧ base ≤ X ∧ X < w.heap.size := by
  rcases h.2 with ⟨_, h0⟩ | ⟨X, c, cur, rfl, h1, h2, _⟩
  · omega
  · exact ⟨X, c, rfl, h1, (Array.getElem?_eq_some_iff.1 h2).1⟩

end Go.Proofs.Ytbhdlpndmbhaiaa
