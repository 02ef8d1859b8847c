/- umbralaw03.VecLong: true of any vector. -/
import Derived.Test.YtalclbngpimajaaVT
namespace Go.Proofs.Ytalclbngpimajaa
set_option linter.unusedVariables false
set_option maxRecDepth 2000
set_option linter.unusedSimpArgs false
open Go.RowKit
attribute [local go_sem] setCell_twice setCell_pair

theorem absF_bd (x : Int) (h : in64 x) : 0 ≤ absF x ∧ absF x ≤ 9223372036854775807 ∧ (absF x = (x.natAbs : Int) ∨ absF x = 9223372036854775807 ∧ (x.natAbs : Int) = 9223372036854775808) := by
  have h0 := h.1
  have h1 := h.2
  unfold absF sat
  split
  · split
    · omega
    · split <;> omega
  · omega

theorem Add_four (a b c : Int) (a0 : 0 ≤ a) (a1 : a ≤ 9223372036854775807) (b0 : 0 ≤ b) (b1 : b ≤ 9223372036854775807) (c0 : 0 ≤ c) (c1 : c ≤ 9223372036854775807) (w : World) (blk : Nat)
    (h : Wides4 blk (hi a) (lo a) (hi b) (lo b) (hi c) (lo c) (hi 1) (lo 1) w) :
    Calls Try.prog 40 #[.slice (some ⟨blk, 0, none⟩) 4 4] w fun e w' => e = .returned (.tuple #[(.agg #[.int .i64 (hi (a + b + c + 1)), .int .u64 (lo (a + b + c + 1))]), .bool true]) ∧ Below w.heap.size w w' :=
  Add_walk blk 0 4 4 [a, b, c, 1] (some (a + b + c + 1)) rfl (by omega) w h.lt (fun k hk => match k, hk with | 0, _ => (inW_iff _).2 (by show _ ≤ a ∧ a < _; omega) | 1, _ => (inW_iff _).2 (by show _ ≤ b ∧ b < _; omega) | 2, _ => (inW_iff _).2 (by show _ ≤ c ∧ c < _; omega) | 3, _ => (inW_iff _).2 (by show (_ : Int) ≤ 1 ∧ (1 : Int) < _; omega))
    (fun k hk => match k, hk with | 0, _ => ⟨h.c0, h.c1⟩ | 1, _ => ⟨h.c2, h.c3⟩ | 2, _ => ⟨h.c4, h.c5⟩ | 3, _ => ⟨h.c6, h.c7⟩) (by
    simp only [addR]
    rw [if_pos ((inW_iff _).2 (by omega)), if_pos ((inW_iff _).2 (by omega)), if_pos ((inW_iff _).2 (by omega)), if_pos ((inW_iff _).2 (by omega)), Int.zero_add])

theorem root_ge (x S : Int) (t : Nat) (hx : x * x ≤ S) (t2 : S < ((t : Int) + 1) * (t + 1)) : (x.natAbs : Int) ≤ t := by
  refine Int.not_lt.1 fun h => ?_
  have h1 := Int.mul_le_mul (show (t : Int) + 1 ≤ x.natAbs by omega) (show (t : Int) + 1 ≤ x.natAbs by omega) (by omega) (by omega)
  have := abs_sq x
  omega

theorem root_le (x y z : Int) (t : Nat) (t1 : (t : Int) * t ≤ x * x + y * y + z * z) : (t : Int) ≤ x.natAbs + y.natAbs + z.natAbs := by
  refine Int.not_lt.1 fun h => ?_
  have hx := abs_sq x
  have hy := abs_sq y
  have hz := abs_sq z
  have px : (0 : Int) ≤ x.natAbs := by omega
  have py : (0 : Int) ≤ y.natAbs := by omega
  have pz : (0 : Int) ≤ z.natAbs := by omega
  generalize (x.natAbs : Int) = a at *
  generalize (y.natAbs : Int) = b at *
  generalize (z.natAbs : Int) = c at *
  have h1 := Int.mul_le_mul (show a + b + c + 1 ≤ (t : Int) by omega) (show a + b + c + 1 ≤ (t : Int) by omega) (by omega) (by omega)
  have e : (a + b + c + 1) * (a + b + c + 1) = a * a + b * b + c * c + 2 * (a * b) + 2 * (a * c) + 2 * (b * c) + 2 * (a + b + c) + 1 := by grind
  have ab := Int.mul_nonneg px py
  have ac := Int.mul_nonneg px pz
  have bc := Int.mul_nonneg py pz
  rw [e] at h1
  omega

theorem Long_walk (x y z : Int) (hx : in64 x) (hy : in64 y) (hz : in64 z) (w : World) :
    Calls Try.prog 9 #[(.agg #[.int .i64 x, .int .i64 y, .int .i64 z])] w fun e w' => e = .returned (.bool true) ∧ Below w.heap.size w w' := by
  obtain ⟨t, t1, t2⟩ := exists_root _ (sumSq_nonneg x y z)
  have qx := sq_bd x hx
  have qy := sq_bd y hy
  have qz := sq_bd z hz
  have ax := absF_bd x hx
  have ay := absF_bd y hy
  have az := absF_bd z hz
  have gx := root_ge x _ t (show x * x ≤ x * x + y * y + z * z by omega) t2
  have gy := root_ge y _ t (show y * y ≤ x * x + y * y + z * z by omega) t2
  have gz := root_ge z _ t (show z * z ≤ x * x + y * y + z * z by omega) t2
  have gs := root_le x y z t t1
  have le := fun w => VLength_any x y z t hx hy hz t1 t2 w
  have mo := fun w => VMost_any x y z hx hy hz w
  obtain ⟨n, hn⟩ : ∃ n, n = min (t : Int) 9223372036854775807 := ⟨_, rfl⟩
  obtain ⟨m, hm⟩ : ∃ m, m = mostF x y z := ⟨_, rfl⟩
  rw [← hn] at le
  rw [← hm] at mo
  have hm' : m = max (max (absF x) (absF y)) (absF z) := hm
  have n0 : 0 ≤ n := by omega
  have hc : cmpI n (absF x + absF y + absF z + 1) ≤ 0 := by
    unfold cmpI
    split
    · omega
    · rw [if_neg (by omega)]; omega
  have fx := fun w => FAbs_any x hx.1 hx.2 w
  have fy := fun w => FAbs_any y hy.1 hy.2 w
  have fz := fun w => FAbs_any z hz.1 hz.2 w
  have ox := fun w => Of_any (absF x) (by omega) (by omega) w
  have oy := fun w => Of_any (absF y) (by omega) (by omega) w
  have oz := fun w => Of_any (absF z) (by omega) (by omega) w
  have o1 := fun w => Of_any 1 (by omega) (by omega) w
  have on := fun w => Of_any n (by omega) (by omega) w
  have ad := fun w b h => Add_four (absF x) (absF y) (absF z) ax.1 ax.2.1 ay.1 ay.2.1 az.1 az.2.1 w b h
  have cm := fun w => Cmp_any n (absF x + absF y + absF z + 1) w
  by_cases h : m ≤ n
  · exact Long_a x y z _ _ _ _ _ _ _ _ _ _ _ _ _ _ _ n m _ w h n0 hc fx ox fy oy fz oz o1 ad on cm (fun w => vworks_any w) le mo
  · exact Long_b x y z _ _ _ _ _ _ _ _ _ _ _ _ _ _ _ n m _ w (by omega) (by omega) n0 hc fx ox fy oy fz oz o1 ad on cm (fun w => vworks_any w) le mo
end Go.Proofs.Ytalclbngpimajaa
