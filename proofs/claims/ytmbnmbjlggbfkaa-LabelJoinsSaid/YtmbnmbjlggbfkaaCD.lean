/- Arrays of whole numbers, as functions of the index; words of four bytes. -/
import Derived.Test.YtmbnmbjlggbfkaaCC
namespace Go.Proofs.Ytmbnmbjlggbfkaa
set_option linter.unusedVariables false
set_option maxRecDepth 2000
set_option linter.unusedSimpArgs false
open Go.RowKit
/-- the cells of an array of n numbers of kind k -/
def nums (k : IntKind) (f : Nat → Int) (n : Nat) : List Value := (List.range n).map fun i => .int k (f i)
theorem nums_length (k : IntKind) (f : Nat → Int) (n : Nat) : (nums k f n).length = n := by simp [nums]
theorem nums_at (k : IntKind) (f : Nat → Int) {n i : Nat} (h : i < n) : (nums k f n)[i]? = some (.int k (f i)) := by simp [nums, h]
theorem nums_out (k : IntKind) (f : Nat → Int) {n i : Nat} (h : n ≤ i) : (nums k f n)[i]? = none := by simp [nums, h]
theorem nums_one (k : IntKind) (f : Nat → Int) (n : Nat) : ∀ v ∈ nums k f n, v.oneCell' = true := by
  intro v hv
  simp [nums] at hv
  obtain ⟨i, _, rfl⟩ := hv
  rfl
theorem nums_congr (k : IntKind) {f g : Nat → Int} {n : Nat} (h : ∀ i, i < n → f i = g i) : nums k f n = nums k g n := by
  unfold nums
  apply List.map_congr_left
  intro i hi
  rw [h i (by simpa using hi)]
/-- one number turned -/
def at1 (f : Nat → Int) (i : Nat) (v : Int) : Nat → Int := fun j => if j = i then v else f j
theorem nums_set (k : IntKind) (f : Nat → Int) {n i : Nat} (v : Int) (h : i < n) : over (nums k f n) i [.int k v] = nums k (at1 f i v) n := by
  apply List.ext_getElem?
  intro j
  have hl : (nums k f n).length = n := nums_length k f n
  unfold over
  by_cases hj : j < n
  · rw [nums_at _ _ hj]
    unfold at1
    by_cases h1 : j < i
    · rw [List.append_assoc, List.getElem?_append_left (by simp [hl]; omega), List.getElem?_take_of_lt h1, nums_at _ _ hj, if_neg (by omega)]
    · by_cases h2 : j = i
      · subst h2
        rw [List.append_assoc, List.getElem?_append_right (by simp [hl]; omega)]
        simp [hl, Nat.min_eq_left (Nat.le_of_lt hj)]
      · rw [List.getElem?_append_right (by simp [hl]; omega), List.getElem?_drop, if_neg h2]
        have : i + [Value.int k v].length + (j - ((nums k f n).take i ++ [Value.int k v]).length) = j := by simp [hl]; omega
        rw [this, nums_at _ _ hj]
  · rw [nums_out _ _ (by omega)]
    simp [hl]
    omega
theorem own_set {k : IntKind} {f : Nat → Int} {n i b : Nat} {v : Int} {W : World} (h : Own b (nums k f n) W) (hi : i < n) : Own b (nums k (at1 f i v) n) (W.setCells b i [.int k v]) := by
  have := Own.part (o := i) (vs := [.int k v]) h (by simp [nums_length]; omega)
  rwa [nums_set k f v hi] at this

theorem run_part1 {P : Program} {e n i : Nat} {k : IntKind} {f : Nat → Int} {w : World} (hi : i < n) (hs : (sizeOf e).run P w = .ok 1 w) (ha : (isAgg e).run P w = .ok false w) :
    (part e (nums k f n).toArray i).run P w = .ok (.int k (f i)) w := by
  unfold part
  simp [hs, ha, nums_at k f hi]
theorem eq_loop {P : Program} {w : World} (F : Nat → Sem (ForInStep (Option Bool × Unit))) : ∀ (m a : Nat), (∀ i, a ≤ i → i < a + m → (F i).run P w = .ok (.yield (none, ())) w) →
    (forIn (List.range' a m) ((none, ()) : Option Bool × Unit) fun i _ => F i).run P w = .ok (none, ()) w
  | 0, a, _ => by simp
  | m + 1, a, h => by
    rw [List.range'_succ, List.forIn_cons, Sem.run_bind, h a (Nat.le_refl _) (by omega), Result.andThen_ok]
    exact eq_loop F m (a + 1) fun i h1 h2 => h i (by omega) (by omega)
theorem eq_nums {P : Program} {t e n : Nat} {k : IntKind} {f : Nat → Int} {w : World} (d : Nat) (ht : P.underlying t = some (.array n e)) (he : P.underlying e = some (.int k)) (hs : (sizeOf e).run P w = .ok 1 w) (ha : (isAgg e).run P w = .ok false w) :
    (Op.equalIn (d + 2) t (.agg (nums k f n).toArray) (.agg (nums k f n).toArray)).run P w = .ok true w := by
  rw [Op.equalIn]
  simp only [Sem.run_bind, run_underlying ht, Result.andThen_ok, hs]
  simp only [Std.Legacy.Range.forIn_eq_forIn_range']
  have hn : ([:n] : Std.Legacy.Range).size = n := by simp [Std.Legacy.Range.size]
  rw [hn]
  rw [eq_loop (w := w) (P := P) _ n 0 (fun i _ hi => ?_), Result.andThen_ok]
  · rfl
  · have h1 : i < n := by omega
    simp [Sem.run_bind, run_part1 h1 hs ha, run_equalIn_int (P := P) w d e k k (f i) (f i) he]
/-- '==' of two arrays of the same numbers -/
theorem eql_nums {P : Program} {t e n : Nat} {k : IntKind} {f : Nat → Int} {w : World} (ht : P.underlying t = some (.array n e)) (he : P.underlying e = some (.int k)) (hs : (sizeOf e).run P w = .ok 1 w) (ha : (isAgg e).run P w = .ok false w) :
    (binOp .eql t (.agg (nums k f n).toArray) (.agg (nums k f n).toArray)).run P w = .ok (.bool true) w := by
  rw [run_eql_struct, eq_nums (n := n) 9998 ht he hs ha, Result.andThen_ok]

theorem store_nums {P : Program} {w : World} {b n : Nat} {cs : List Value} (k : IntKind) (f : Nat → Int) (h : Own b cs w) (hl : cs.length = n) : (storeCells ⟨b, 0, none⟩ (nums k f n)).run P w = .ok () (w.setCells b 0 (nums k f n)) :=
  run_storeCells_cells (P := P) b 0 (nums k f n) 0 w (fun j hj => by simpa using (h.free j (by rw [nums_length] at hj; omega)).1) (fun j hj => by simpa using (h.free j (by rw [nums_length] at hj; omega)).2) (nums_one _ _ _)
theorem own_store {k k' : IntKind} {f g : Nat → Int} {n b : Nat} {W : World} (h : Own b (nums k f n) W) : Own b (nums k' g n) (W.setCells b 0 (nums k' g n)) := Own.store h (by rw [nums_length, nums_length])
theorem wpList_move {P : Program} {ops : Array Oper} {rest : List Oper} {op : Oper} {a : Act} {w : World} {Q : Exit → Act → World → Prop} (hgd : op.guard = none) (x : Operand) (ho : op.op = .move x)
    (h : wpList P ops Q rest (a.put op.dst (a.eval x)) w) : wpList P ops Q (op :: rest) a w :=
  wpList_plain hgd fun K hK => by
    unfold Oper.wp execOp
    simp only [ho, Sem.run_pure, Result.andThen_ok]
    exact hK _ _ h
/-- AS ONE STEP OF A REGION THAT DRAWS ITS ORDER: a load of a whole array -/
theorem step_load {P : Program} {ops : Array Oper} {o : Oper} {a : Act} {w : World} {K : Act → World → Prop} {Q : Exit → Act → World → Prop} {E : Prop}
    (hw : Region.wanted o (yielded ops a.tmps) = true) (ty : TypeId) (x : Operand) (ho : o.op = .load ty x)
    (b off : Nat) (hx : a.eval x = .pointer (some ⟨b, off, none⟩)) (cs : List Value) (d : TypeDesc) (hc : w.rangeAt b off cs)
    (hu : P.underlying ty = some d) (hd : d.isRow = true) (hi : (P.info? ty).map (·.size) = some cs.length)
    (h : K (a.put o.dst (.agg cs.toArray)) w) : if Region.wanted o (yielded ops a.tmps) = true then Oper.wp P o a w K Q else E := by
  rw [if_pos hw]
  exact wp_load_mid ty x ho b off hx cs d hc hu hd hi h
theorem nums_all (k : IntKind) (f : Nat → Int) (n : Nat) : (nums k f n).toArray.all (·.oneCell') = true := all_oneCell_toArray (nums_one k f n)
theorem nums_size (k : IntKind) (f : Nat → Int) (n : Nat) : (nums k f n).toArray.size = n := by simp [nums_length]
/-- a result that is a variable's content -/
theorem res_cell {P : Program} {fn : Func} {tmps : Array Value} {w : World} {r T : Nat} {a : Addr} {v : Value} (hf : fn.results = #[.cell r T]) (ha : tmps[r]?.getD undef = .pointer (some a)) (hl : (loadVar T a).run P w = .ok v w) :
    (results fn tmps).run P w = .ok v w := by
  have hx : (asAddr (Value.pointer (some a))).run P w = .ok a w := by simp [asAddr]
  simp [results, hf, ha, hx, hl]
theorem word_or (b0 b1 b2 b3 : Nat) (h0 : b0 < 256) (h1 : b1 < 256) (h2 : b2 < 256) (h3 : b3 < 256) :
    bits .or .u32 (bits .or .u32 (bits .or .u32 (b0 : Int) ((b1 : Int) * 256 % 4294967296)) ((b2 : Int) * 65536 % 4294967296)) ((b3 : Int) * 16777216 % 4294967296) = ((b0 + 256 * b1 + 65536 * b2 + 16777216 * b3 : Nat) : Int) := by
  have e1 : (b1 : Int) * 256 % 4294967296 = ((256 * b1 : Nat) : Int) := by omega
  have e2 : (b2 : Int) * 65536 % 4294967296 = ((65536 * b2 : Nat) : Int) := by omega
  have e3 : (b3 : Int) * 16777216 % 4294967296 = ((16777216 * b3 : Nat) : Int) := by omega
  rw [e1, e2, e3, u32_or_nat _ _ (by omega) (by omega)]
  have f1 : b0 ||| 256 * b1 = b0 + 256 * b1 := by rw [Nat.or_comm, nat_join 8 _ _ (by omega) (by omega)]; omega
  rw [f1, u32_or_nat _ _ (by omega) (by omega)]
  have f2 : b0 + 256 * b1 ||| 65536 * b2 = b0 + 256 * b1 + 65536 * b2 := by rw [Nat.or_comm, nat_join 16 _ _ (by omega) (by omega)]; omega
  rw [f2, u32_or_nat _ _ (by omega) (by omega)]
  have f3 : b0 + 256 * b1 + 65536 * b2 ||| 16777216 * b3 = b0 + 256 * b1 + 65536 * b2 + 16777216 * b3 := by rw [Nat.or_comm, nat_join 24 _ _ (by omega) (by omega)]; omega
  rw [f3]
/-- the number of four bytes, least significant first -/
def word (g : Nat → Int) (o : Nat) : Int := g o + 256 * g (o + 1) + 65536 * g (o + 2) + 16777216 * g (o + 3)
theorem in_word {g : Nat → Int} {o : Nat} (h : ∀ i, o ≤ i → i < o + 4 → inB (g i)) : in32 (word g o) := by
  have h0 := h o (by omega) (by omega)
  have h1 := h (o + 1) (by omega) (by omega)
  have h2 := h (o + 2) (by omega) (by omega)
  have h3 := h (o + 3) (by omega) (by omega)
  unfold in32 word inB at *
  omega
theorem word_or' (b0 b1 b2 b3 : Int) (h0 : inB b0) (h1 : inB b1) (h2 : inB b2) (h3 : inB b3) :
    bits .or .u32 (bits .or .u32 (bits .or .u32 b0 (b1 * 256 % 4294967296)) (b2 * 65536 % 4294967296)) (b3 * 16777216 % 4294967296) = b0 + 256 * b1 + 65536 * b2 + 16777216 * b3 := by
  unfold inB at *
  have := word_or b0.toNat b1.toNat b2.toNat b3.toNat (by omega) (by omega) (by omega) (by omega)
  rw [Int.toNat_of_nonneg h0.1, Int.toNat_of_nonneg h1.1, Int.toNat_of_nonneg h2.1, Int.toNat_of_nonneg h3.1] at this
  rw [this]
  omega
end Go.Proofs.Ytmbnmbjlggbfkaa
