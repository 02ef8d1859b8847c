import Derived.Test.YtlfchlholabijaaWA
import Derived.Laws.MathBits
namespace Go.Proofs.Ytlfchlholabijaa
set_option linter.unusedVariables false
set_option maxRecDepth 2000
open Go.RowKit
theorem ret_tup {k k' : IntKind} {a b c d : Int} (h : a = b) (h' : c = d) : Ending.returned (.tuple #[.int k a, .int k' c]) = .returned (.tuple #[.int k b, .int k' d]) := by rw [h, h']
theorem mul64_walk (x y : Int) (hx0 : 0 ≤ x) (hx : x < 18446744073709551616) (hy0 : 0 ≤ y) (hy : y < 18446744073709551616) :
  IntKind.u64.wrap (IntKind.u64.wrap (IntKind.u64.wrap (x / 4294967296 * (y / 4294967296)) + IntKind.u64.wrap (IntKind.u64.wrap (x / 4294967296 * bits BinOp.and IntKind.u64 y 4294967295) + IntKind.u64.wrap (bits BinOp.and IntKind.u64 x 4294967295 * bits BinOp.and IntKind.u64 y 4294967295) / 4294967296) / 4294967296) +
    IntKind.u64.wrap (bits BinOp.and IntKind.u64 (IntKind.u64.wrap (IntKind.u64.wrap (x / 4294967296 * bits BinOp.and IntKind.u64 y 4294967295) + IntKind.u64.wrap (bits BinOp.and IntKind.u64 x 4294967295 * bits BinOp.and IntKind.u64 y 4294967295) / 4294967296)) 4294967295 + IntKind.u64.wrap (bits BinOp.and IntKind.u64 x 4294967295 * (y / 4294967296))) / 4294967296) = hi (x * y) := by
  rw [and_low32 x hx0 hx, and_low32 y hy0 hy, and_low32 (IntKind.u64.wrap _) (by rw [IntKind.wrap_u64]; omega) (by rw [IntKind.wrap_u64]; omega)]
  simp only [IntKind.wrap_u64]
  exact mul64_arith x y hx0 hx hy0 hy
set_option maxHeartbeats 1000000 in
theorem Mul64_any (x y : Int) (hx0 : 0 ≤ x) (hx : x < 18446744073709551616) (hy0 : 0 ≤ y) (hy : y < 18446744073709551616) (w : World) :
    Calls Try.prog 21 #[.int .u64 x, .int .u64 y] w fun e w' => e = .returned (.tuple #[.int .u64 (hi (x * y)), .int .u64 (lo (x * y))]) ∧ w = w' := by
  go_enter Try.func21, Try.ntmps21
  go_wp2
  go_ret2
  exact ⟨ret_tup (mul64_walk x y hx0 hx hy0 hy) (wrap_of_bool _), rfl⟩


theorem len_end (x y : Int) (k s : Nat) (hk : k ≤ 56) (hy0 : 0 ≤ y) (hy : y < 256) (hs : s = bitLen y.toNat) (hxy : y.toNat = x.toNat / 2 ^ k) (hne : k = 0 ∨ y ≠ 0) :
    wrap64 ((k : Int) + wrap64 (s : Int)) = (bitLen x.toNat : Int) := by
  have hb := bitLen_le8 y.toNat (by omega)
  have e : bitLen x.toNat = k + bitLen y.toNat := by
    rcases hne with rfl | hne
    · rw [hxy]; simp
    · rw [hxy]; exact bitLen_shift _ _ (by omega)
  rw [e, hs]
  generalize bitLen y.toNat = b at *
  clear hxy e hs
  unfold wrap64
  omega
theorem len_end0 (x : Int) (s : Nat) (hy0 : 0 ≤ x) (hy : x < 256) (hs : s = bitLen x.toNat) : wrap64 (wrap64 (s : Int)) = (bitLen x.toNat : Int) := by
  have hb := bitLen_le8 x.toNat (by omega)
  rw [hs]; unfold wrap64; omega

set_option maxRecDepth 1000000 in
set_option maxHeartbeats 4000000 in
/-- Len64: how many bits a number takes -/
theorem Len64_any (x : Int) (hx0 : 0 ≤ x) (hx : x < 18446744073709551616) (w : World) :
    Calls Try.prog 41 #[.int .u64 x] w fun e w' => e = .returned (.int .i64 (bitLen x.toNat)) ∧ w = w' := by
  go_enter Try.func41, Try.ntmps41
  go_wp2
  all_goals go_ret
  all_goals first
    | exact ⟨ret_int (len_end x (x / 4294967296 / 65536 / 256) 56 _ (by omega) (by omega) (by omega) (len8tab_get _ _) (by omega) (by omega)), rfl⟩
    | exact ⟨ret_int (len_end x (x / 4294967296 / 65536) 48 _ (by omega) (by omega) (by omega) (len8tab_get _ _) (by omega) (by omega)), rfl⟩
    | exact ⟨ret_int (len_end x (x / 4294967296 / 256) 40 _ (by omega) (by omega) (by omega) (len8tab_get _ _) (by omega) (by omega)), rfl⟩
    | exact ⟨ret_int (len_end x (x / 4294967296) 32 _ (by omega) (by omega) (by omega) (len8tab_get _ _) (by omega) (by omega)), rfl⟩
    | exact ⟨ret_int (len_end x (x / 65536 / 256) 24 _ (by omega) (by omega) (by omega) (len8tab_get _ _) (by omega) (by omega)), rfl⟩
    | exact ⟨ret_int (len_end x (x / 65536) 16 _ (by omega) (by omega) (by omega) (len8tab_get _ _) (by omega) (by omega)), rfl⟩
    | exact ⟨ret_int (len_end x (x / 256) 8 _ (by omega) (by omega) (by omega) (len8tab_get _ _) (by omega) (by omega)), rfl⟩
    | exact ⟨ret_int (len_end0 x _ (by omega) (by omega) (len8tab_get _ _)), rfl⟩

theorem Lead64_any (x : Int) (hx0 : 1 ≤ x) (hx : x < 18446744073709551616) (w : World) :
    Calls Try.prog 40 #[.int .u64 x] w fun e w' => e = .returned (.int .i64 (64 - bitLen x.toNat)) ∧ w = w' := by
  have hb := bitLen_spec x.toNat
  have hb1 : bitLen x.toNat ≤ 64 := by
    have h2 := hb.2 (by omega)
    rcases Nat.lt_or_ge 64 (bitLen x.toNat) with h | h
    · have := Nat.pow_le_pow_right (n := 2) (by omega) (show 64 ≤ bitLen x.toNat - 1 by omega)
      omega
    · exact h
  clear hb
  go_enter Try.func40, Try.ntmps40
  go_wp2_with (go_at_call 41; refine (Len64_any _ (by omega) (by omega) _).mono ?_; rintro e w' ⟨rfl, rfl⟩)
  go_ret
  exact ⟨rfl, rfl⟩
end Go.Proofs.Ytlfchlholabijaa
