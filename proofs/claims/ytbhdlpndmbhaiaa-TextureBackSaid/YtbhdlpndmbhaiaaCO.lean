/- The stream: numbers; chacha.Stream. -/
import Derived.Test.YtbhdlpndmbhaiaaCJ
import Derived.LoopN
import Derived.LoopTactic
import Derived.Deep.WholeRow
import Derived.Deep.Onto
namespace Go.Proofs.Ytbhdlpndmbhaiaa
set_option linter.unusedVariables false
set_option maxRecDepth 2000
set_option linter.unusedSimpArgs false
open Go.RowKit
attribute [local go_sem] nums_length
/-- the i-th byte of the stream -/
def strF (kf : Nat → Int) (c : Int) (nf : Nat → Int) (i : Nat) : Int := blkF kf ((c + (i / 64 : Nat)) % 4294967296) nf (i % 64)
theorem in_strF (kf : Nat → Int) (c : Int) (nf : Nat → Int) (i : Nat) : inB (strF kf c nf i) := in_blkF _ _ _ _
theorem strF_blk (kf : Nat → Int) (c : Int) (nf : Nat → Int) (k j : Nat) (hj : j < 64) : strF kf c nf (64 * k + j) = blkF kf ((c + (k : Int)) % 4294967296) nf j := by
  unfold strF
  rw [show (64 * k + j) / 64 = k by omega, show (64 * k + j) % 64 = j by omega]
theorem nums_append (q : IntKind) (f g : Nat → Int) (a b : Nat) (h : ∀ j, j < b → f (a + j) = g j) : nums q f a ++ nums q g b = nums q f (a + b) := by
  apply List.ext_getElem?
  intro j
  by_cases h1 : j < a
  · rw [List.getElem?_append_left (by rw [nums_length]; exact h1), nums_at _ _ h1, nums_at _ _ (by omega)]
  · rw [List.getElem?_append_right (by rw [nums_length]; omega), nums_length]
    by_cases h2 : j < a + b
    · rw [nums_at _ _ (by omega), nums_at _ _ h2, ← h (j - a) (by omega), show a + (j - a) = j by omega]
    · rw [nums_out _ _ (by omega), nums_out _ _ (by omega)]
theorem infoB : (Try.prog.info? 5).map (fun i => (i.zero, i.size, i.bytes)) = some (some (.int .u8 0), 1, 1) := by kernel_rfl
theorem infoB_parts : ∃ i, Try.prog.info? 5 = some i ∧ i.zero = some (.int .u8 0) ∧ i.size = 1 ∧ i.bytes = 1 := by
  obtain ⟨i, hi, h⟩ := Option.map_eq_some_iff.1 infoB
  simp only [Prod.mk.injEq] at h
  exact ⟨i, hi, h.1, h.2.1, h.2.2⟩
theorem own_take {k : IntKind} {f : Nat → Int} {X n m : Nat} {W : World} (h : Own X (nums k f n) W) (hm : m ≤ n) : ∀ j u, (nums k f m)[j]? = some u → W.cell? ((⟨X, 0, none⟩ : Addr).add j) = some u := fun j u hj => by
  have hjm : j < m := by
    have := (List.getElem?_eq_some_iff.1 hj).1
    rwa [nums_length] at this
  rw [Addr.add_mid, Nat.zero_add]
  rw [nums_at _ _ hjm] at hj
  exact h.at j u ((nums_at _ _ (by omega)).trans hj)
def slLen : Value → Nat
  | .slice _ n _ => n
  | _ => 0
theorem row_form {w : World} {base size n : Nat} {e : TypeId} {v : Value} {xs : List Value} (h : w.ownsRow base e size v n xs) : ∃ p c, v = .slice p n c ∧ n ≤ c := by
  rcases h.2 with ⟨rfl, rfl⟩ | ⟨g, cap, cur, rfl, _, _, hc, _⟩
  · exact ⟨none, 0, rfl, Nat.le_refl _⟩
  · exact ⟨_, cap, rfl, hc⟩

end Go.Proofs.Ytbhdlpndmbhaiaa
