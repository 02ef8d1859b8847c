/- One block through the document's digits. -/
import Derived.Test.YtbofihejegbfhaaNP
import Derived.Lib.Hide
namespace Go.Proofs.Ytbofihejegbfhaa
set_option linter.unusedVariables false
set_option maxRecDepth 2000
set_option linter.unusedSimpArgs false
open Go.RowKit
theorem digs_sum_V5 (a b : Nat) (ha : a < TT) (hb : b < TT) : V5 (fun j => digs a j + digs b j) = a + b := by
  have h1 := V5_digs a ha; have h2 := V5_digs b hb
  unfold V5 at *
  dsimp only
  omega
theorem ref_step (M blk r : Nat) (hM : M < TT) (hb : blk < TT) (hr : r < TT) : ∃ M1 M2 : Nat, M1 < TT ∧ M2 < TT ∧ nums .i64 (itR (fun j => digs blk j + digs M j) 3) 5 = nums .i64 (digs M1) 5 ∧
    nums .i64 (itR (accT (digs M1) (digs r) 25) 3) 5 = nums .i64 (digs M2) 5 ∧ M2 % PP = (M % PP + blk) * r % PP := by
  obtain ⟨M1, h1, e1, c1⟩ := carry_num (fun j => digs blk j + digs M j) (fun j _ => by have := digs_bd blk j; have := digs_bd M j; omega)
  have hd : ∀ N j, j < 5 → 0 ≤ digs N j ∧ digs N j ≤ 134217728 := fun N j _ => by have := digs_bd N j; omega
  obtain ⟨M2, h2, e2, c2⟩ := carry_num (accT (digs M1) (digs r) 25) (fun j _ => ⟨(acc_bd _ _ (hd M1) (hd r) 25 (by decide) j).1, by have := (acc_bd _ _ (hd M1) (hd r) 25 (by decide) j).2; omega⟩)
  refine ⟨M1, M2, h1, h2, e1, e2, ?_⟩
  rw [digs_sum_V5 blk M hb hM] at c1
  have pv := prod_V5 (digs M1) (digs r)
  rw [V5_digs M1 h1, V5_digs r hr] at pv
  generalize V5 (accT (digs M1) (digs r) 25) = v at *
  obtain ⟨q, eq⟩ : ∃ q : Int, (M1 : Int) * r = v + 1361129467683753853853498429727072845819 * q := ⟨_, pv⟩
  clear pv
  have s1 : (M2 : Int) % 1361129467683753853853498429727072845819 = ((M1 * r : Nat) : Int) % 1361129467683753853853498429727072845819 := by
    rw [Int.natCast_mul, eq]; omega
  have s2 : M2 % PP = M1 * r % PP := by
    have : ((M2 % PP : Nat) : Int) = ((M1 * r % PP : Nat) : Int) := by
      rw [Int.natCast_emod, Int.natCast_emod]; exact s1
    exact Int.ofNat_inj.1 this
  have s3 : M1 % PP = (M % PP + blk) % PP := by unfold PP; omega
  rw [s2, Nat.mul_mod, s3, ← Nat.mul_mod]
end Go.Proofs.Ytbofihejegbfhaa
