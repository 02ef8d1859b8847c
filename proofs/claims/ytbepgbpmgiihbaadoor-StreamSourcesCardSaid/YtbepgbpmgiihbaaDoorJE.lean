/- stream: the counter and the place of a number; a number out of its bytes. -/
import Derived.Test.YtbepgbpmgiihbaaDoorJC
import Derived.Test.YtbepgbpmgiihbaaDoorCE
import Derived.Test.YtbepgbpmgiihbaaDoorCK
import Derived.Laws.Bits128
import Derived.Lib.Hide
import Derived.Deep.QuietTactic
import Derived.LoopN
import Derived.LoopTactic
namespace Go.Proofs.YtbepgbpmgiihbaaDoor
set_option linter.unusedVariables false
set_option maxRecDepth 2000
set_option linter.unusedSimpArgs false
open Go.RowKit
theorem and63 (n : Int) : bits .and .i64 n 63 = n % 64 := by
  have h63 : (BitVec.ofInt 64 63).toNat = 2 ^ 6 - 1 := by decide
  have key : (BitVec.ofInt 64 n &&& BitVec.ofInt 64 63).toNat = (n % ((2 ^ 64 : Nat) : Int)).toNat % 2 ^ 6 := by
    rw [BitVec.toNat_and, BitVec.toNat_ofInt, h63, Nat.and_two_pow_sub_one_eq_mod]
  show IntKind.i64.wrap ((BitVec.ofInt 64 n &&& BitVec.ofInt 64 63).toNat : Nat) = n % 64
  rw [key, IntKind.wrap_i64]
  omega
/-- the counter of the block that holds the number of a bounce and a dim -/
def cntF (b d : Int) : Int := 4 * (b % 65536) + d % 64 / 16
/-- the place of its first byte there -/
def idxN (d : Int) : Nat := 4 * ((d % 64).toNat % 16)
theorem in_cntF (b d : Int) : in32 (cntF b d) := by unfold in32 cntF; omega
theorem idxN_le (d : Int) : idxN d ≤ 60 := by unfold idxN; omega
theorem find_any (b d : Int) (hb : inI b) (hd : inI d) (w : World) :
    Calls Tryd.prog 18 #[.int .i64 b, .int .i64 d] w fun e w' => e = .returned (.tuple #[.int .u32 (cntF b d), .int .i64 (idxN d : Nat)]) ∧ Below w.heap.size w w' := by
  have ha := and63 d
  obtain ⟨k, ek⟩ : ∃ k : Nat, d % 64 = (k : Int) := ⟨(d % 64).toNat, by omega⟩
  rw [ek] at ha
  have hk : k < 64 := by omega
  have q1 : ((k : Nat) : Int).tdiv 16 = ((k / 16 : Nat) : Int) := by rw [Int.tdiv_eq_ediv_of_nonneg (by omega)]; omega
  have q2 : ((k : Nat) : Int).tmod 16 = ((k % 16 : Nat) : Int) := by rw [Int.tmod_eq_emod_of_nonneg (by omega)]; omega
  obtain ⟨x, ex⟩ : ∃ x, b % 65536 = x := ⟨_, rfl⟩
  have hx : 0 ≤ x ∧ x < 65536 := by omega
  obtain ⟨m, em⟩ : ∃ m, k / 16 = m := ⟨_, rfl⟩
  obtain ⟨r, er⟩ : ∃ r, k % 16 = r := ⟨_, rfl⟩
  rw [em] at q1
  rw [er] at q2
  have hm : m < 4 := by omega
  have hr : r < 16 := by omega
  have e1 : cntF b d = 4 * x + (m : Int) := by unfold cntF; omega
  have e2 : idxN d = 4 * r := by unfold idxN; omega
  rw [e1, e2]
  have wx : IntKind.u16.wrap b = x := by rw [← ex]; simp [IntKind.wrap, IntKind.bits, IntKind.signed]
  have x2 : x % 4294967296 = x := by omega
  have x4 : 4 * x % 4294967296 = 4 * x := by omega
  rw [show ((4 * r : Nat) : Int) = 4 * (r : Int) by omega]
  clear e1 e2 em er ek hb hd ex
  go_enter Tryd.func18, Tryd.ntmps18
  go_wp2_with (fail)
  exact bodyPost_ret (v := .tuple #[.int .u32 (4 * x + (m : Int)), .int .i64 (4 * (r : Int))]) (by simp [results, Tryd.results18, go_sem, x2, x4]) rfl ⟨rfl, Below.refl _ _⟩

theorem snumber_any (K o n c : Nat) (b0 b1 b2 b3 : Int) (h0 : inB b0) (h1 : inB b1) (h2 : inB b2) (h3 : inB b3) (hn : 4 ≤ n) (w : World) (hk : Has K o [.int .u8 b0, .int .u8 b1, .int .u8 b2, .int .u8 b3] w) :
    Calls Tryd.prog 20 #[.slice (some ⟨K, o, none⟩) n c] w fun e w' => e = .returned (.int .u32 (b0 + 256 * b1 + 65536 * b2 + 16777216 * b3)) ∧ Below w.heap.size w w' := by
  have hw := Lib.hid (word_or' b0 b1 b2 b3 h0 h1 h2 h3)
  have k0 := hk.at 0 _ rfl; have k1 := hk.at 1 _ rfl; have k2 := hk.at 2 _ rfl; have k3 := hk.at 3 _ rfl
  rw [Nat.add_zero] at k0
  have n0 : (0 : Int) < (n : Int) := by omega
  have N0 : 0 < n := by omega
  have n1 : (1 : Int) < (n : Int) := by omega
  have n2 : (2 : Int) < (n : Int) := by omega
  have n3 : (3 : Int) < (n : Int) := by omega
  have v0 := (conv_u8 b0 h0).1; have v1 := (conv_u8 b1 h1).1; have v2 := (conv_u8 b2 h2).1; have v3 := (conv_u8 b3 h3).1
  have q0 := (conv_u8 b0 h0).2; have q1 := (conv_u8 b1 h1).2; have q2 := (conv_u8 b2 h2).2; have q3 := (conv_u8 b3 h3).2
  clear hk hn h0 h1 h2 h3
  go_enter Tryd.func20, Tryd.ntmps20
  go_wp2_with (fail)
  go_quiet (fail)
  have hBd : Below w.heap.size w (w.drewN nq) := below_drewN (Below.refl _ _) _
  go_wp2_with (fail)
  exact bodyPost_ret (v := .int .u32 (b0 + 256 * b1 + 65536 * b2 + 16777216 * b3)) (by simp [results, Tryd.results20, IntKind.wrap_u32', hw.out]) rfl ⟨rfl, hBd⟩

/-- the bytes of two numbers, and four zeros -/
def nonF (p q : Int) (i : Nat) : Int := if i < 4 then byteN p i else if i < 8 then byteN q (i - 4) else 0
theorem in_nonF (p q : Int) (i : Nat) : inB (nonF p q i) := by
  unfold nonF
  split
  · exact in_byteN _ _
  · split
    · exact in_byteN _ _
    · unfold inB; omega
/-- the nonce behind k rounds -/
def nonU (p q : Int) (k : Nat) : Nat → Int := fun j => if j < k then byteN p j else if 4 ≤ j ∧ j < 4 + k then byteN q (j - 4) else 0
theorem nonU_0 (p q : Int) : nums .u8 (fun _ => 0) 12 = nums .u8 (nonU p q 0) 12 := nums_congr _ fun j _ => by unfold nonU; rw [if_neg (by omega), if_neg (by omega)]
theorem nonU_4 (p q : Int) : nums .u8 (nonU p q 4) 12 = nums .u8 (nonF p q) 12 := nums_congr _ fun j _ => by
  unfold nonU nonF
  by_cases h : j < 4
  · rw [if_pos h, if_pos h]
  · rw [if_neg h, if_neg h]
    by_cases h2 : j < 8
    · rw [if_pos ⟨by omega, by omega⟩, if_pos h2]
    · rw [if_neg (by omega), if_neg h2]
theorem nonU_step (p q : Int) (k : Nat) (a b : Int) (hk : k < 4) (ha : byteN p k = a) (hb : byteN q k = b) : nums .u8 (at1 (at1 (nonU p q k) k a) (4 + k) b) 12 = nums .u8 (nonU p q (k + 1)) 12 := nums_congr _ fun j _ => by
  unfold at1 nonU
  by_cases h1 : j = 4 + k
  · rw [if_pos h1, if_neg (by omega), if_pos ⟨by omega, by omega⟩, ← hb, show j - 4 = k by omega]
  · rw [if_neg h1]
    by_cases h2 : j = k
    · rw [if_pos h2, if_pos (by omega), ← ha, h2]
    · rw [if_neg h2]
      by_cases h3 : j < k
      · rw [if_pos h3, if_pos (by omega)]
      · rw [if_neg h3, if_neg (show ¬ j < k + 1 by omega)]
        by_cases h4 : 4 ≤ j ∧ j < 4 + k
        · rw [if_pos h4, if_pos ⟨h4.1, by omega⟩]
        · rw [if_neg h4, if_neg (by omega)]
end Go.Proofs.YtbepgbpmgiihbaaDoor
