/- umbralaw01.WideBack: what it gives. -/
import Derived.Test.YtmpbnmhbebhpeaaLB
import Derived.Test.YtmpbnmhbebhpeaaQuo
import Derived.Test.YtmpbnmhbebhpeaaWN
namespace Go.Proofs.Ytmpbnmhbebhpeaa
set_option linter.unusedVariables false
open Go.RowKit

theorem Add_two_no (blk : Nat) (x y : Int) (c : Nat) (hx : inW x = true) (hy : inW y = true) (hs : ¬ inW (x + y) = true) (w : World) (hb : blk < w.heap.size)
    (c0 : w.cell? ⟨blk, 0, none⟩ = some (.int .i64 (hi x))) (c1 : w.cell? ⟨blk, 1, none⟩ = some (.int .u64 (lo x))) (c2 : w.cell? ⟨blk, 2, none⟩ = some (.int .i64 (hi y))) (c3 : w.cell? ⟨blk, 3, none⟩ = some (.int .u64 (lo y))) :
    Calls Try.prog 19 #[.slice (some ⟨blk, 0, none⟩) 2 c] w fun e w' => e = .returned (.tuple #[.agg #[.int .i64 0, .int .u64 0], .bool false]) ∧ Below w.heap.size w w' := by
  refine (Add_walk blk 0 2 c [x, y] none rfl (by omega) w hb ?_ ?_ ?_).mono fun e w' h => h
  · intro k hk
    obtain rfl | rfl : k = 0 ∨ k = 1 := by omega
    · exact hx
    · exact hy
  · intro k hk
    obtain rfl | rfl : k = 0 ∨ k = 1 := by omega
    · exact ⟨c0, c1⟩
    · exact ⟨c2, c3⟩
  · simp only [addR, Int.zero_add, if_pos hx, if_neg hs]

theorem Back_walk (a b h l : Int) (w : World) (a0 : -9223372036854775808 ≤ a) (a1 : a ≤ 9223372036854775807) (b0 : -9223372036854775808 ≤ b) (b1 : b ≤ 9223372036854775807)
    (h0 : -9223372036854775808 ≤ h) (h1 : h ≤ 9223372036854775807) (l0 : 0 ≤ l) (l1 : l ≤ 18446744073709551615) :
    Calls Try.prog 9 #[.int .i64 a, .int .i64 b, .agg #[.int .i64 h, .int .u64 l]] w fun e w' => e = .returned (.bool true) ∧ Below w.heap.size w w' := by
  have eh := hi_of h l l0 (by omega)
  have el := lo_of h l l0 (by omega)
  generalize hz : h * 18446744073709551616 + l = z at *
  have wz : inW z = true := (inW_iff z).2 (by omega)
  have wa : inW a = true := (inW_iff a).2 (by omega)
  have wm : inW (-a) = true := (inW_iff _).2 (by omega)
  have ofa := fun w => Of_any a a0 a1 w
  have ng := fun w => Neg_yes a (by omega) (by omega) w
  have eqc : eqB h l h l = true := by simp [eqB]
  have eqa : eqB (hi a) (lo a) (hi a) (lo a) = true := by simp [eqB]
  have wk := fun w => works_any w
  have mu := fun w => Mul_any a b a0 a1 b0 b1 w
  have pb := prod_bd a b a0 a1 b0 b1
  have dv := fun (hb : b ≠ 0) w => Div_yes (a * b) b a 0 (by omega) (by omega) b0 b1 (by rw [Int.add_zero, Int.mul_comm]) (by omega) (by omega) hb (by omega) (by omega) w
  by_cases hok : inW (z + a) = true
  · have ad := fun blk c w hb c0 c1 c2 c3 => Add_two blk z a 0 c wz wa hok w hb c0 c1 c2 c3
    have ad2 := fun blk c w hb c0 c1 c2 c3 => Add_two blk (z + a) (-a) 0 c hok wm (by rw [show z + a + -a = z by omega]; exact wz) w hb c0 c1 c2 c3
    rw [show z + a + -a = z by omega, eh, el] at ad2
    rw [eh, el] at ad
    by_cases hb : b = 0
    · subst hb
      exact Back_zero a h l _ _ _ _ _ _ true w ofa ng ad (fun _ => ad2) eqc wk
    · exact Back_other a b h l _ _ _ _ _ _ _ _ true w (by simpa using hb) eqa mu (dv hb) ofa ng ad (fun _ => ad2) eqc wk
  · have ad := fun blk c w hb c0 c1 c2 c3 => Add_two_no blk z a c wz wa hok w hb c0 c1 c2 c3
    rw [eh, el] at ad
    by_cases hb : b = 0
    · subst hb
      exact Back_zero a h l _ _ _ _ _ _ false w ofa ng ad (fun h => by cases h) eqc wk
    · exact Back_other a b h l _ _ _ _ _ _ _ _ false w (by simpa using hb) eqa mu (dv hb) ofa ng ad (fun h => by cases h) eqc wk
end Go.Proofs.Ytmpbnmhbebhpeaa
