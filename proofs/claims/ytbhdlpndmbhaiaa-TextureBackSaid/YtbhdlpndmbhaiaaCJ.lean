/- A block of the stream: numbers; chacha.Block. -/
import Derived.Test.YtbhdlpndmbhaiaaCI
import Derived.LoopN
import Derived.LoopTactic
import Derived.Deep.WholeRow
namespace Go.Proofs.Ytbhdlpndmbhaiaa
set_option linter.unusedVariables false
set_option maxRecDepth 2000
set_option linter.unusedSimpArgs false
open Go.RowKit
theorem in_stF {kf nf : Nat → Int} {c : Int} (hk : ∀ i, i < 32 → inB (kf i)) (hn : ∀ i, i < 12 → inB (nf i)) (hc : in32 c) : inS (stF kf c nf) := by
  intro i hi
  unfold stF
  repeat' split
  · unfold in32; decide
  · unfold in32; decide
  · unfold in32; decide
  · unfold in32; decide
  · exact in_word fun j h1 h2 => hk j (by omega)
  · exact hc
  · exact in_word fun j h1 h2 => hn j (by omega)
/-- the i-th byte of a block -/
def blkF (kf : Nat → Int) (c : Int) (nf : Nat → Int) (i : Nat) : Int :=
  (iterR (stF kf c nf) 10 (i / 4) + stF kf c nf (i / 4)) % 4294967296 / 2 ^ (8 * (i % 4)) % 256
theorem in_blkF (kf : Nat → Int) (c : Int) (nf : Nat → Int) (i : Nat) : inB (blkF kf c nf i) := by
  unfold inB blkF
  omega
def upto (F : Nat → Int) (n : Nat) : Nat → Int := fun j => if j < n then F j else 0
theorem upto_step (k : IntKind) (F : Nat → Int) (n N : Nat) (v : Int) (hv : v = F n) : nums k (at1 (upto F n) n v) N = nums k (upto F (n + 1)) N := nums_congr _ fun j _ => by
  unfold at1 upto
  by_cases h : j = n
  · rw [if_pos h, if_pos (by omega), h]; exact hv
  · rw [if_neg h]
    by_cases h2 : j < n
    · rw [if_pos h2, if_pos (by omega)]
    · rw [if_neg h2, if_neg (by omega)]
theorem upto_all (k : IntKind) (F : Nat → Int) (N : Nat) : nums k (upto F N) N = nums k F N := nums_congr _ fun _ hj => if_pos hj
theorem tdiv4 (n m : Nat) (h : n / 4 = m) : (n : Int).tdiv 4 = (m : Int) := by
  rw [Int.tdiv_eq_ediv_of_nonneg (by omega)]
  omega
theorem tmod4 (n r : Nat) (h : n % 4 = r) : (n : Int).tmod 4 = (r : Int) := by
  rw [Int.tmod_eq_emod_of_nonneg (by omega)]
  omega
attribute [local go_sem] nums_length

end Go.Proofs.Ytbhdlpndmbhaiaa
