/- Turns, and the document's. -/
import Derived.Test.YtmbnmbjlggbfkaaProg
import Derived.Test.YtmbnmbjlggbfkaaKA
import Derived.Test.YtmbnmbjlggbfkaaCA
import Derived.WalkKit
import Derived.Deep.DeepCutAuto
import Derived.Deep.QuietTactic
namespace Go.Proofs.Ytmbnmbjlggbfkaa
set_option linter.unusedVariables false
set_option maxRecDepth 2000
set_option linter.unusedSimpArgs false
open Go.RowKit
theorem rot_form (x : Int) (hx : in32 x) (m d : Nat) (n : Nat) (hm : 2 ^ n = m) (hd : 2 ^ (32 - n) = d) : bits .or .u32 (x * (m : Int) % 4294967296) (x / (d : Int)) = rot32 n x := by
  obtain ⟨h0, h1⟩ := hx
  obtain ⟨k, rfl⟩ := Int.eq_ofNat_of_zero_le h0
  have e1 : ((k : Int) * (m : Int) % 4294967296) = ((k * m % 4294967296 : Nat) : Int) := by
    rw [← Int.natCast_mul]
    generalize k * m = z
    omega
  have e2 : (k : Int) / (d : Int) = ((k / d : Nat) : Int) := (Int.natCast_ediv k d).symm
  rw [e1, e2, u32_or_nat _ _ (Nat.mod_lt _ (by decide)) (Nat.lt_of_le_of_lt (Nat.div_le_self _ _) (by omega))]
  unfold rot32
  rw [hm, hd, Int.toNat_natCast]

end Go.Proofs.Ytmbnmbjlggbfkaa
