/- aead: what the padding closure, lengths, long and the law's few do. -/
import Derived.Test.YtjkeaiihjbcfgaaDoorYCU
import Derived.Test.YtjkeaiihjbcfgaaDoorYCR
import Derived.Lib.Hide
import Derived.Deep.Onto
import Derived.Laws.BitsLemmas
import Derived.LoopN
import Derived.LoopTactic
namespace Go.Proofs.YtjkeaiihjbcfgaaDoor
set_option linter.unusedVariables false
set_option maxRecDepth 2000
set_option linter.unusedSimpArgs false
open Go.RowKit
theorem i64_and15 (n : Int) : bits .and .i64 n 15 = n % 16 := by
  have h15 : (BitVec.ofInt 64 15).toNat = 2 ^ 4 - 1 := by decide
  have key : (BitVec.ofInt 64 n &&& BitVec.ofInt 64 15).toNat = (n % ((2 ^ 64 : Nat) : Int)).toNat % 2 ^ 4 := by
    rw [BitVec.toNat_and, BitVec.toNat_ofInt, h15, Nat.and_two_pow_sub_one_eq_mod]
  show IntKind.i64.wrap ((BitVec.ofInt 64 n &&& BitVec.ofInt 64 15).toNat : Nat) = n % 16
  rw [key, IntKind.wrap_i64]
  omega
theorem few8_any (p : Option Addr) (n c T : Nat) (e : min (n : Int) 250 = (T : Int)) (hT : T ≤ c) (w : World) :
    Calls Tryd.prog 9 #[.slice p n c] w fun e w' => e = .returned (.slice p T c) ∧ Below w.heap.size w w' := by
  have T0 : (0 : Int) ≤ (T : Int) := by omega
  have T1 : (T : Int) ≤ (c : Int) := by omega
  go_enter Tryd.func9, Tryd.ntmps9
  go_wp2_with (fail)
  go_ret
  exact ⟨by first | rfl | (simp [sliced_head]; done) | (simp [sliced_head]; omega), Below.refl _ _⟩
/-- as many bytes 0 as fill n up -/
def padN (n : Nat) : Nat := (16 - n % 16) % 16
set_option maxHeartbeats 4000000 in
theorem pad_any (Z : Nat) (p : Option Addr) (n c : Nat) (hn : n ≤ 65536) (w : World) :
    Calls Tryd.prog 24 #[.slice p n c, .pointer (some ⟨Z, 0, none⟩)] w fun e w' => e = .returned (.slice (some ⟨Z, 0, none⟩) (padN n) 16) ∧ Below w.heap.size w w' := by
  have e1 : IntKind.i64.wrap (-(n : Int)) = -(n : Int) := IntWalk.i64_in _ (by omega)
  have e2 : bits .and .i64 (-(n : Int)) 15 = ((padN n : Nat) : Int) := by rw [i64_and15, padN]; omega
  have hp : padN n ≤ 16 := by unfold padN; omega
  obtain ⟨k, ek⟩ : ∃ k, padN n = k := ⟨_, rfl⟩
  rw [ek] at e2 hp ⊢
  have k0 : (0 : Int) ≤ (k : Int) := by omega
  have k1 : (k : Int) ≤ 16 := by omega
  clear ek
  go_enter Tryd.func24, Tryd.ntmps24
  go_wp2_with (fail)
  go_ret
  exact ⟨by first | rfl | simp [sliced_head], Below.refl _ _⟩
theorem long_any (p q : Option Addr) (n m c d : Nat) (hn : n ≤ 16384) (hm : m ≤ 16384) (w : World) :
    Calls Tryd.prog 29 #[.slice p n c, .slice q m d] w fun e w' => e = .returned (.bool false) ∧ Below w.heap.size w w' := by
  have g1 : decide (16384 < n) = false := by simp; omega
  have g2 : decide (16384 < m) = false := by simp; omega
  have g3 : decide ((16384 : Int) < (n : Int)) = false := by simp; omega
  have g4 : decide ((16384 : Int) < (m : Int)) = false := by simp; omega
  clear hn hm
  go_enter Tryd.func29, Tryd.ntmps29
  go_wp2_with (fail)
  go_ret
  exact ⟨by first | rfl | simp, Below.refl _ _⟩
theorem wpList_append_b {w : World} {ops : Array Oper} {rest : List Oper} {o : Oper} {a : Act} {Q : Exit → Act → World → Prop} (hgd : o.guard = none) (s x : Operand)
    (ho : o.op = .call { callee := .builtin .append, args := #[s, x], argTypes := #[26, 26] }) (base : Nat) (v : Value) (L : Nat) (xs : List Value) (hs : a.eval s = v) (hown : w.ownsRow base 5 1 v L xs)
    (q : Option Addr) (n c : Nat) (f : Nat → Int) (hx : a.eval x = .slice q n c) (hby : Byt w q n f) (h63 : L + n ≤ 140737488355328) (hbase : base ≤ w.heap.size)
    (h : ∀ v' w', w'.ownsRow base 5 1 v' (L + n) (xs ++ nums .u8 f n) → w.grownBy w' v.ownBlock → wpList Tryd.prog ops Q rest (a.put o.dst v') w') : wpList Tryd.prog ops Q (o :: rest) a w := by
  obtain ⟨i0, hi, hz0, hz1, hz2⟩ := infoB_parts
  rcases hby with h0 | ⟨b, off, rfl, hb⟩
  · subst h0
    refine wpList_append_zero hgd s x 26 ho Tryd.underlying26 hi hs hown q c hx (h v w ?_ (World.grownBy.refl w _))
    rw [Nat.add_zero, show nums .u8 f 0 = [] from rfl, List.append_nil]
    exact hown
  · exact wpList_append_own _ hgd s x 26 ho base 5 i0 (.int .u8 0) 1 1 Tryd.underlying26 hi hz0 hz1 hz2 rfl (by decide) v L xs hs hown ⟨b, off, none⟩ n c (nums .u8 f n) hx (by rw [nums_length, Nat.mul_one]) (fun j u hj => by rw [Addr.add_mid]; exact hb.cell j u hj) (nums_one _ _ _) (by unfold maxLen; omega) (by omega) hbase (fun v' w' h1 h2 _ => h v' w' h1 h2)
theorem row_cap_ {w : World} {base size n c : Nat} {e : TypeId} {p : Option Addr} {xs : List Value} (h : w.ownsRow base e size (.slice p n c) n xs) : n ≤ c ∧ c ≤ 9223372036854775807 := by
  rcases h.2 with ⟨h0, _⟩ | ⟨g, cap, cur, h0, _, _, h1, h2, _⟩
  · cases h0; decide
  · cases h0; unfold maxLen at h2; omega

end Go.Proofs.YtjkeaiihjbcfgaaDoor
