/- A Hash's cells: numbers. -/
import Derived.Test.YtajejlaoompieaaDoorHF
import Derived.Test.YtajejlaoompieaaDoorHU
import Derived.Lib.Hide
import Derived.Deep.Onto
import Derived.Deep.WholeRow
namespace Go.Proofs.YtajejlaoompieaaDoor
set_option linter.unusedVariables false
set_option maxRecDepth 2000
set_option linter.unusedSimpArgs false
open Go.RowKit
/-- the cells of a Hash: the value, the block, how many bytes, made -/
def hashC (v b : Nat → Int) (n : Nat) : List Value := nums .u32 v 8 ++ (nums .u8 b 64 ++ [.int .i64 (n : Int), .bool true])
theorem hash_len (v b : Nat → Int) (n : Nat) : (hashC v b n).length = 74 := by simp [hashC, nums_length]
theorem hash_val (v b : Nat → Int) (n : Nat) {j : Nat} (h : j < 8) : (hashC v b n)[j]? = some (.int .u32 (v j)) := by
  unfold hashC
  rw [List.getElem?_append_left (by rw [nums_length]; exact h), nums_at _ _ h]
theorem hash_blk (v b : Nat → Int) (n : Nat) {j : Nat} (h : j < 64) : (hashC v b n)[8 + j]? = some (.int .u8 (b j)) := by
  unfold hashC
  rw [List.getElem?_append_right (by rw [nums_length]; omega), nums_length, show 8 + j - 8 = j by omega, List.getElem?_append_left (by rw [nums_length]; exact h), nums_at _ _ h]
theorem hash_n (v b : Nat → Int) (n : Nat) : (hashC v b n)[72]? = some (.int .i64 (n : Int)) := by
  unfold hashC
  rw [List.getElem?_append_right (by rw [nums_length]; omega), nums_length, List.getElem?_append_right (by rw [nums_length]; omega), nums_length]
  rfl
theorem hash_made (v b : Nat → Int) (n : Nat) : (hashC v b n)[73]? = some (.bool true) := by
  unfold hashC
  rw [List.getElem?_append_right (by rw [nums_length]; omega), nums_length, List.getElem?_append_right (by rw [nums_length]; omega), nums_length]
  rfl
theorem hash_one (v b : Nat → Int) (n : Nat) : ∀ x ∈ hashC v b n, x.oneCell' = true := by
  intro x hx
  simp only [hashC, List.mem_append, List.mem_cons, List.not_mem_nil, or_false] at hx
  rcases hx with h | h | rfl | rfl
  · exact nums_one _ _ _ x h
  · exact nums_one _ _ _ x h
  · rfl
  · rfl
theorem hash_out (v b : Nat → Int) (n : Nat) {j : Nat} (h : 74 ≤ j) : (hashC v b n)[j]? = none := List.getElem?_eq_none (by rw [hash_len]; exact h)
theorem over_get (cs vs : List Value) (o j : Nat) (h : o + vs.length ≤ cs.length) : (over cs o vs)[j]? = if j < o then cs[j]? else if j < o + vs.length then vs[j - o]? else cs[j]? := by
  unfold over
  have e1 : (cs.take o).length = o := by simp; omega
  by_cases h1 : j < o
  · rw [if_pos h1, List.append_assoc, List.getElem?_append_left (by omega), List.getElem?_take_of_lt h1]
  · rw [if_neg h1]
    by_cases h2 : j < o + vs.length
    · rw [if_pos h2, List.append_assoc, List.getElem?_append_right (by omega), e1, List.getElem?_append_left (by omega)]
    · rw [if_neg h2, List.getElem?_append_right (by simp [e1]; omega), List.getElem?_drop]
      congr 1
      simp [e1]
      omega
/-- two lists of a Hash's length are one if they agree everywhere -/
theorem hash_ext {l : List Value} {v b : Nat → Int} {n : Nat} (hl : l.length = 74) (h0 : ∀ j, j < 8 → l[j]? = some (.int .u32 (v j))) (h1 : ∀ j, j < 64 → l[8 + j]? = some (.int .u8 (b j))) (h2 : l[72]? = some (.int .i64 (n : Int))) (h3 : l[73]? = some (.bool true)) : l = hashC v b n := by
  apply List.ext_getElem?
  intro j
  by_cases a : j < 8
  · rw [h0 j a, hash_val v b n a]
  · by_cases c : j < 72
    · have := h1 (j - 8) (by omega)
      have e := hash_blk v b n (show j - 8 < 64 by omega)
      rw [show 8 + (j - 8) = j by omega] at this e
      rw [this, e]
    · by_cases d : j = 72
      · subst d; rw [h2, hash_n]
      · by_cases e : j = 73
        · subst e; rw [h3, hash_made]
        · rw [hash_out v b n (by omega), List.getElem?_eq_none (by omega)]
theorem hash_set_val (v v' b : Nat → Int) (n : Nat) : over (hashC v b n) 0 (nums .u32 v' 8) = hashC v' b n := by
  have hl : 0 + (nums .u32 v' 8).length ≤ (hashC v b n).length := by rw [nums_length, hash_len]; decide
  refine hash_ext (by rw [over_length _ _ _ hl, hash_len]) (fun j hj => ?_) (fun j hj => ?_) ?_ ?_ <;> rw [over_get _ _ _ _ hl, nums_length]
  · rw [if_neg (by omega), if_pos (by omega), Nat.sub_zero, nums_at _ _ hj]
  · rw [if_neg (by omega), if_neg (by omega), hash_blk v b n hj]
  · rw [if_neg (by omega), if_neg (by omega), hash_n]
  · rw [if_neg (by omega), if_neg (by omega), hash_made]
theorem hash_set_blk (v b b' : Nat → Int) (n : Nat) : over (hashC v b n) 8 (nums .u8 b' 64) = hashC v b' n := by
  have hl : 8 + (nums .u8 b' 64).length ≤ (hashC v b n).length := by rw [nums_length, hash_len]; decide
  refine hash_ext (by rw [over_length _ _ _ hl, hash_len]) (fun j hj => ?_) (fun j hj => ?_) ?_ ?_ <;> rw [over_get _ _ _ _ hl, nums_length]
  · rw [if_pos (by omega), hash_val v b n hj]
  · rw [if_neg (by omega), if_pos (by omega), show 8 + j - 8 = j by omega, nums_at _ _ hj]
  · rw [if_neg (by omega), if_neg (by omega), hash_n]
  · rw [if_neg (by omega), if_neg (by omega), hash_made]
/-- a block with t bytes laid from r on -/
def laidB (b g : Nat → Int) (r t : Nat) : Nat → Int := fun j => if r ≤ j ∧ j < r + t then g (j - r) else b j
theorem hash_set_part (v b g : Nat → Int) (n r t : Nat) (h : r + t ≤ 64) : over (hashC v b n) (8 + r) (nums .u8 g t) = hashC v (laidB b g r t) n := by
  have hl : 8 + r + (nums .u8 g t).length ≤ (hashC v b n).length := by rw [nums_length, hash_len]; omega
  refine hash_ext (by rw [over_length _ _ _ hl, hash_len]) (fun j hj => ?_) (fun j hj => ?_) ?_ ?_ <;> rw [over_get _ _ _ _ hl, nums_length]
  · rw [if_pos (by omega), hash_val v b n hj]
  · unfold laidB
    by_cases h1 : j < r
    · rw [if_pos (by omega), if_neg (by omega), hash_blk v b n hj]
    · rw [if_neg (by omega)]
      by_cases h2 : j < r + t
      · rw [if_pos (by omega), if_pos ⟨by omega, h2⟩, show 8 + j - (8 + r) = j - r by omega, nums_at _ _ (by omega)]
      · rw [if_neg (by omega), if_neg (by omega), hash_blk v b n hj]
  · rw [if_neg (by omega), if_neg (by omega), hash_n]
  · rw [if_neg (by omega), if_neg (by omega), hash_made]
theorem hash_set_n (v b : Nat → Int) (n m : Nat) : over (hashC v b n) 72 [.int .i64 (m : Int)] = hashC v b m := by
  have hl : 72 + [Value.int .i64 (m : Int)].length ≤ (hashC v b n).length := by rw [hash_len]; simp
  refine hash_ext (by rw [over_length _ _ _ hl, hash_len]) (fun j hj => ?_) (fun j hj => ?_) ?_ ?_ <;> rw [over_get _ _ _ _ hl] <;> simp only [List.length_singleton]
  · rw [if_pos (by omega), hash_val v b n hj]
  · rw [if_pos (by omega), hash_blk v b n hj]
  · rw [if_neg (by omega), if_pos (by omega)]; rfl
  · rw [if_neg (by omega), if_neg (by omega), hash_made]
/-- what the block of a Hash holds behind n bytes -/
def blkH (g : Nat → Int) (n : Nat) : Nat → Int := fun j => if j < n % 64 then g (64 * (n / 64) + j) else 0
/-- the cells of a Hash behind n bytes of g -/
def stateH (g : Nat → Int) (n : Nat) : List Value := hashC (chF g (n / 64)) (blkH g n) n
theorem state_some (g : Nat → Int) (n r t N : Nat) (hr : r = n % 64) (hN : N = n + t) (ht : r + t < 64) : hashC (chF g (n / 64)) (laidB (blkH g n) (fun j => g (n + j)) r t) N = stateH g N := by
  subst hr hN
  unfold stateH
  rw [show (n + t) / 64 = n / 64 by omega]
  unfold hashC
  congr 2
  refine nums_congr _ fun j hj => ?_
  unfold laidB blkH
  rw [show (n + t) % 64 = n % 64 + t by omega, show (n + t) / 64 = n / 64 by omega]
  by_cases h1 : j < n % 64
  · rw [if_neg (by omega), if_pos h1, if_pos (by omega)]
  · by_cases h2 : j < n % 64 + t
    · rw [if_pos ⟨by omega, h2⟩, if_pos h2]
      show g (n + (j - n % 64)) = _
      rw [show n + (j - n % 64) = 64 * (n / 64) + j by omega]
    · rw [if_neg (by omega), if_neg h1, if_neg h2]
theorem state_full (g : Nat → Int) (n r t N : Nat) (hr : r = n % 64) (hN : N = n + t) (ht : r + t = 64) : hashC (compF kC (chF g (n / 64)) (laidB (blkH g n) (fun j => g (n + j)) r t)) (fun _ => 0) N = stateH g N := by
  subst hr hN
  unfold stateH hashC
  have e1 : nums .u32 (compF kC (chF g (n / 64)) (laidB (blkH g n) (fun j => g (n + j)) (n % 64) t)) 8 = nums .u32 (chF g ((n + t) / 64)) 8 := nums_congr _ fun j hj => by
    rw [show (n + t) / 64 = n / 64 + 1 by omega]
    refine compF_congr (fun _ _ => rfl) (fun _ _ => rfl) (fun i hi => ?_) j hj
    unfold laidB blkH
    by_cases h1 : i < n % 64
    · rw [if_neg (by omega), if_pos h1]
    · rw [if_pos ⟨by omega, by omega⟩]
      show g (n + (i - n % 64)) = _
      rw [show n + (i - n % 64) = 64 * (n / 64) + i by omega]
  have e2 : nums .u8 (fun _ => 0) 64 = nums .u8 (blkH g (n + t)) 64 := nums_congr _ fun j hj => by
    unfold blkH
    rw [if_neg (by omega)]
  rw [e1, e2]
theorem in_laidB {b g : Nat → Int} {r t : Nat} (hb : ∀ j, j < 64 → inB (b j)) (hg : ∀ j, j < t → inB (g j)) : ∀ j, j < 64 → inB (laidB b g r t j) := fun j hj => by
  unfold laidB
  split
  · exact hg _ (by omega)
  · exact hb j hj
theorem in_blkH {g : Nat → Int} {n : Nat} (hg : ∀ j, j < n → inB (g j)) (j : Nat) : inB (blkH g n j) := by
  unfold blkH
  split
  · exact hg _ (by omega)
  · exact ⟨by decide, by decide⟩
theorem has_val {K : Nat} {v b : Nat → Int} {n : Nat} {W : World} (h : Own K (hashC v b n) W) : Has K 0 (nums .u32 v 8) W := ⟨h.lt, fun j x hj => by
  have hj8 : j < 8 := by
    have := (List.getElem?_eq_some_iff.1 hj).1
    rwa [nums_length] at this
  rw [nums_at _ _ hj8] at hj
  rw [Nat.zero_add, ← hj]
  exact h.at j _ (hash_val v b n hj8)⟩
theorem has_blk {K : Nat} {v b : Nat → Int} {n : Nat} {W : World} (h : Own K (hashC v b n) W) : Has K 8 (nums .u8 b 64) W := ⟨h.lt, fun j x hj => by
  have hj8 : j < 64 := by
    have := (List.getElem?_eq_some_iff.1 hj).1
    rwa [nums_length] at this
  rw [nums_at _ _ hj8] at hj
  rw [← hj]
  exact h.at (8 + j) _ (hash_blk v b n hj8)⟩
theorem there_own {K o n : Nat} {cs : List Value} {W : World} (h : Own K cs W) (hn : o + n ≤ cs.length) : W.there K o n := fun j hj => by
  have := h.free (o + j) (by omega)
  rwa [Nat.zero_add] at this
theorem store_part {P : Program} {w : World} {b n o : Nat} {cs : List Value} (k : IntKind) (f : Nat → Int) (h : Own b cs w) (hl : o + n ≤ cs.length) : (storeCells ⟨b, o, none⟩ (nums k f n)).run P w = .ok () (w.setCells b o (nums k f n)) :=
  run_storeCells_cells (P := P) b o (nums k f n) 0 w (fun j hj => by simpa using (h.free (o + j) (by rw [nums_length] at hj; omega)).1) (fun j hj => by simpa using (h.free (o + j) (by rw [nums_length] at hj; omega)).2) (nums_one _ _ _)
theorem own_val {K : Nat} {v v' b : Nat → Int} {n : Nat} {W : World} (h : Own K (hashC v b n) W) : Own K (hashC v' b n) (W.setCells K 0 (nums .u32 v' 8)) := by
  have := Own.part (o := 0) (vs := nums .u32 v' 8) h (by rw [nums_length, hash_len]; decide)
  rwa [hash_set_val] at this
theorem own_blk {K : Nat} {v b b' : Nat → Int} {n : Nat} {W : World} (h : Own K (hashC v b n) W) : Own K (hashC v b' n) (W.setCells K 8 (nums .u8 b' 64)) := by
  have := Own.part (o := 8) (vs := nums .u8 b' 64) h (by rw [nums_length, hash_len]; decide)
  rwa [hash_set_blk] at this
theorem own_some {K : Nat} {v b g : Nat → Int} {n r t : Nat} {W : World} (h : Own K (hashC v b n) W) (hr : r + t ≤ 64) : Own K (hashC v (laidB b g r t) n) (W.setCells K (8 + r) (nums .u8 g t)) := by
  have := Own.part (o := 8 + r) (vs := nums .u8 g t) h (by rw [nums_length, hash_len]; omega)
  rwa [hash_set_part _ _ _ _ _ _ hr] at this
theorem own_n {K : Nat} {v b : Nat → Int} {n m : Nat} {W : World} (h : Own K (hashC v b n) W) : Own K (hashC v b m) (W.setCells K 72 [.int .i64 (m : Int)]) := by
  have := Own.part (o := 72) (vs := [.int .i64 (m : Int)]) h (by rw [hash_len]; simp)
  rwa [hash_set_n] at this
theorem bytN_drop {w : World} {p : Option Addr} {L l c K : Nat} {f : Nat → Int} (h : BytN w p L f K) (hl : l ≤ L) (hc : L ≤ c) : BytN w (slq p l c) (L - l) (fun j => f (l + j)) K := by
  by_cases h0 : L - l = 0
  · exact .inl h0
  · obtain ⟨b, off, rfl, hn, hb⟩ := h.resolve_left (by omega)
    refine .inr ⟨b, off + l, ?_, hn, hb.lt, fun j v hj => ?_⟩
    · unfold slq
      rw [if_neg (by omega)]
      simp [Addr.add]
    · have hjl : j < L - l := by
        have := (List.getElem?_eq_some_iff.1 hj).1
        rwa [nums_length] at this
      rw [nums_at _ _ hjl] at hj
      rw [show off + l + j = off + (l + j) by omega]
      rw [← hj]
      exact hb.cell (l + j) _ (nums_at _ _ (by omega))
theorem byt_bytN {w w' : World} {q : Option Addr} {n K : Nat} {f : Nat → Int} (h : Byt w q n f) (hb : Below w.heap.size w w') (hK : w.heap.size ≤ K) : BytN w' q n f K := by
  rcases h with h0 | ⟨b, off, rfl, hx⟩
  · exact .inl h0
  · exact .inr ⟨b, off, rfl, by have := hx.lt; omega, hx.later hb⟩
theorem step_copy {P : Program} {ops : Array Oper} {o : Oper} {a : Act} {w : World} {K : Act → World → Prop} {Q : Exit → Act → World → Prop} {E : Prop}
    (hg : o.guard = none) (s x : Operand) (t : TypeId) (hop : o.op = Op.call { callee := Callee.builtin Builtin.copy, args := #[s, x], argTypes := #[t, t] }) {v vx v' : Value} {w' : World} (hs : a.eval s = v) (hx : a.eval x = vx)
    (hrun : (Builtin.copy_ #[t, t] o.type #[v, vx]).run P w = .ok v' w') (hK : K (a.put o.dst v') w') : if Region.wanted o (yielded ops a.tmps) = true then Oper.wp P o a w K Q else E := by
  have hw : Region.wanted o (yielded ops a.tmps) = true := by simp [Region.wanted, hg]
  rw [if_pos hw]
  unfold Oper.wp
  simp [execOp, hop, resolve, invoke, builtin, hs, hx, hrun, Result.andThen]
  exact hK
end Go.Proofs.YtajejlaoompieaaDoor
