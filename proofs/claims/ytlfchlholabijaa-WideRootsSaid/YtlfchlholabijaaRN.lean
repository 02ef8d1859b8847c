/- The document's numbers: Quotient of any two, ToInt. -/
import Derived.Test.YtlfchlholabijaaRM
namespace Go.Proofs.Ytlfchlholabijaa
set_option linter.unusedVariables false
set_option maxRecDepth 2000
open Go.RowKit
attribute [local go_sem] setCell_twice setCell_pair

theorem quotient_any (u v : Value) (y z : Int) (w : World) (hu : NumR w u y) (hv : NumR w v z) (hz : z ≠ 0) (y1 : (y.natAbs : Int) < SMALL) (z1 : (z.natAbs : Int) < SMALL) :
    Calls Try.prog 15 #[u, v] w (QuoE w y z) := by
  obtain ⟨ba, p, n, c, rfl⟩ := hu.form
  obtain ⟨bb, q, m, d, rfl⟩ := hv.form
  exact Quo_core ba bb p q n c m d y z w hu hv hz y1 z1

theorem power_63 (w : World) : Calls Try.prog 16 #[.int .i64 63] w (NumE w 9223372036854775808) := power_any 63 (by omega) w
theorem power_64 (w : World) : Calls Try.prog 16 #[.int .i64 64] w (NumE w 18446744073709551616) := power_any 64 (by omega) w

/-- fewer than five digits -/
theorem len_four (ds : List Int) (hd : ∀ i, 0 ≤ ds.getD i 0 ∧ ds.getD i 0 ≤ 65535) (hc : ds = [] ∨ ds.getD (ds.length - 1) 0 ≠ 0) (hv : val ds < 65536 ^ 4) : ds.length ≤ 4 := by
  refine Nat.not_lt.1 fun h => ?_
  rcases hc with rfl | hc
  · simp at h
  obtain ⟨n, hn⟩ : ∃ n, ds.length = n + 1 := ⟨ds.length - 1, by omega⟩
  rw [val_V ds (n + 1) (by omega), V] at hv
  rw [hn, Nat.add_sub_cancel] at hc
  have h1 := V_lt (fun i => ds.getD i 0) n hd
  have h2 := hd n
  have hp : (0 : Int) < 65536 ^ n := Int.pow_pos (by omega)
  have h3 : 1 * (65536 : Int) ^ n ≤ ds.getD n 0 * 65536 ^ n := Int.mul_le_mul_of_nonneg_right (by omega) (by omega)
  have h4 : (65536 : Int) ^ 4 ≤ 65536 ^ n := by
    have : (65536 : Nat) ^ 4 ≤ 65536 ^ n := Nat.pow_le_pow_right (by omega) (by omega)
    have e : ∀ k : Nat, ((65536 ^ k : Nat) : Int) = 65536 ^ k := fun k => by rw [Int.natCast_pow]; rfl
    rw [← e, ← e]; omega
  omega
theorem val_four' (ds : List Int) (h : ds.length ≤ 4) : val ds = ds.getD 0 0 + 65536 * (ds.getD 1 0 + 65536 * (ds.getD 2 0 + 65536 * ds.getD 3 0)) := by
  rw [val_V ds 4 h]
  simp only [V]
  omega

/-- what the digits from place k on make -/
def top4 (d0 d1 d2 d3 : Int) : Nat → Int
  | 0 => ((d3 * 65536 + d2) * 65536 + d1) * 65536 + d0
  | 1 => (d3 * 65536 + d2) * 65536 + d1
  | 2 => d3 * 65536 + d2
  | 3 => d3
  | _ => 0
end Go.Proofs.Ytlfchlholabijaa
