/- PolyShifts: numbers. -/
import Derived.Test.YtljngnemiaklhaaNY
import Derived.Lib.Hide
namespace Go.Proofs.Ytljngnemiaklhaa
set_option linter.unusedVariables false
set_option maxRecDepth 2000
set_option linter.unusedSimpArgs false
open Go.RowKit
theorem clampF_twice {f : Nat → Int} {i : Nat} (h : inB (f i)) : clampF (clampF f) i = clampF f i := by
  unfold clampF inB at *
  by_cases e : i % 4 = 3
  · rw [if_pos e, if_pos e]; omega
  · rw [if_neg e, if_neg e]
    by_cases e2 : i % 4 = 0 ∧ 0 < i
    · rw [if_pos e2, if_pos e2]; omega
    · rw [if_neg e2, if_neg e2]
theorem facN_congr {a b : Nat → Int} (h : ∀ i, i < 16 → clampF a i = clampF b i) : facN a = facN b := numB_congr h
/-- the first half of kf, the other one g -/
def halfs (kf g : Nat → Int) (i : Nat) : Int := if i < 16 then kf i else g (i - 16)
theorem in_halfs {kf g : Nat → Int} (hk : ∀ i, i < 16 → inB (kf i)) (hg : ∀ i, i < 16 → inB (g i)) (i : Nat) (hi : i < 32) : inB (halfs kf g i) := by
  unfold halfs
  split
  · rename_i h; exact hk i h
  · exact hg _ (by omega)
theorem halfs_low (kf g : Nat → Int) {i : Nat} (h : i < 16) : halfs kf g i = kf i := if_pos h
theorem halfs_high (kf g : Nat → Int) (i : Nat) : halfs kf g (16 + i) = g i := by
  unfold halfs
  rw [if_neg (by omega), show 16 + i - 16 = i by omega]
/-- a tag's number: what the accumulator makes, and the other half -/
theorem tag_halfs (kf g f : Nat → Int) (n : Nat) : tagN (halfs kf g) f n = horn (facN kf) f n ((n + 15) / 16) + numB g 16 := by
  unfold tagN
  rw [facN_congr (a := halfs kf g) (b := kf) (fun i hi => by unfold clampF; rw [halfs_low kf g hi]), numB_congr (f := fun i => halfs kf g (16 + i)) (g := g) (fun i _ => halfs_high kf g i)]
theorem numB_zero : ∀ n, numB (fun _ => 0) n = 0
  | 0 => rfl
  | n + 1 => by rw [numB, numB_zero n]; simp
theorem numB_byt (T : Nat) : ∀ n, numB (byt T) n = T % 256 ^ n
  | 0 => by simp [numB, Nat.mod_one]
  | n + 1 => by
    rw [numB, numB_byt T n, Nat.pow_succ, nat_mod_mul]
    unfold byt
    rw [Int.toNat_natCast, Nat.mul_comm]
/-- what is added to a tag is what the difference tells -/
theorem less_back (h0 : Nat) (g : Nat → Int) (hg : ∀ i, i < 16 → inB (g i)) (i : Nat) (hi : i < 16) : byt (lessN (numB (byt (h0 + numB g 16)) 16) (numB (byt (h0 + 0)) 16)) i = g i := by
  have e : lessN (numB (byt (h0 + numB g 16)) 16) (numB (byt (h0 + 0)) 16) = numB g 16 := by
    rw [numB_byt, numB_byt, show (256 : Nat) ^ 16 = 340282366920938463463374607431768211456 from rfl]
    have := numB16 hg
    unfold lessN
    generalize numB g 16 = s at *
    omega
  rw [e]
  exact byt_numB g 16 i hi hg
end Go.Proofs.Ytljngnemiaklhaa
