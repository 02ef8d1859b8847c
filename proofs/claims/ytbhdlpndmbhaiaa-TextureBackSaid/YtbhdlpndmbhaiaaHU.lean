/- Generic laws, gathered from poly's and aead's texts. -/
import Derived.Test.YtbhdlpndmbhaiaaCW
import Derived.Lib.Hide
import Derived.Great.BuildSlice
import Derived.Lib.SlBytesConst
import Derived.ArgAppend
import Derived.Laws.OwnMore
import Derived.Deep.Onto
import Derived.Deep.Upon
namespace Go.Proofs.Ytbhdlpndmbhaiaa
set_option linter.unusedVariables false
set_option maxRecDepth 2000
set_option linter.unusedSimpArgs false
open Go.RowKit
theorem inB_list (l : List Int) (h : l.all (fun x => decide (0 ≤ x ∧ x < 256)) = true) (i : Nat) : inB (l.getD i 0) := by
  rw [List.getD_eq_getElem?_getD]
  cases e : l[i]? with
  | none => exact ⟨by decide, by decide⟩
  | some x =>
    have := List.all_eq_true.1 h x (List.mem_of_getElem? e)
    simpa [inB] using this
theorem wpList_arrN {P : Program} {ops : Array Oper} {rest : List Oper} {o : Oper} {a : Act} {w : World} {Q : Exit → Act → World → Prop} (hg : o.guard = none) (t e : TypeId) (n : Nat) (parts : Array (Nat × Operand)) (ho : o.op = .build t parts)
    (k : IntKind) (zs : List Int) (f : Nat → Int) (hu : P.underlying t = some (.array n e)) (hsz : (P.info? e).map (·.size) = some 1) (hz : ((P.info? t).bind (·.zero)).map (·.cells.size) = some zs.length)
    (hparts : parts.toList = (zs.zipIdx 0).map fun x => (x.2, Operand.const (Value.int k x.1))) (hzs : zs.map (Value.int k) = nums k f n)
    (h : wpList P ops Q rest (a.put o.dst (.agg (nums k f n).toArray)) w) : wpList P ops Q (o :: rest) a w := by
  refine wpList_buildFlatArr hg t e n parts ho k zs hu hsz hz hparts ?_
  rw [hzs]; exact h
theorem wpList_slN {P : Program} {ops : Array Oper} {rest : List Oper} {o : Oper} {a : Act} {w : World} {Q : Exit → Act → World → Prop} (hg : o.guard = none) (t e : TypeId) (len : Nat) (parts : Array (Nat × Operand)) (ho : o.op = .buildSlice t len parts)
    (k : IntKind) (zs : List Int) (f : Nat → Int) (hu : P.underlying t = some (.slice e)) (hsz : (P.info? e).map (·.size) = some 1) (hz : ((P.info? e).bind (·.zero)).isSome = true)
    (hlen : len = zs.length) (hpos : 0 < len) (hsmall : len ≤ 2 ^ 24) (hparts : parts.toList = (zs.zipIdx 0).map fun x => (x.2, Operand.const (Value.int k x.1))) (hzs : zs.map (Value.int k) = nums k f len)
    (h : wpList P ops Q rest (a.put o.dst (.slice (some ⟨w.heap.size, 0, none⟩) len len)) (w.alloc (.cells (nums k f len).toArray e))) : wpList P ops Q (o :: rest) a w := by
  refine wpList_buildFlat hg t e len parts ho k zs hu hsz hz hlen hpos hsmall hparts ?_
  rw [hzs]; exact h
theorem has_marked (W : World) (cs : List Value) (T : TypeId) (fz : Nat × Nat) : Has W.heap.size 0 cs (W.alloc (.cells cs.toArray T fz)) where
  lt := by simp
  cell := fun j v hv => by
    rw [Nat.zero_add]
    simp only [World.cell?, World.alloc, Array.getElem?_push_size]
    simpa using hv
/-- '[]byte("..")' of a constant -/
theorem wpList_conv {ops : Array Oper} {rest : List Oper} {o : Oper} {a : Act} {w : World} {C : Array Value} {n c : Nat} {Q : Exit → Act → World → Prop} (hg : o.guard = none) (x : Operand) (ho : o.op = .convert 26 26 x) (hx : a.eval x = .slice (some ⟨w.heap.size, 0, none⟩) n c)
    (h : wpList Try.prog ops Q rest (a.put o.dst (.slice (some ⟨w.heap.size, 0, none⟩) n c)) (w.alloc (.cells C 5 (C.size, C.size + 1)))) : wpList Try.prog ops Q (o :: rest) a (w.alloc (.cells C 5)) :=
  wpList_plain hg fun K hK => by
    have kc := Lib.run_convert_bytes_const (P := Try.prog) w 26 5 C n c Try.underlying26 Try.underlying5
    unfold Oper.wp execOp
    simp only [ho, hx, Sem.run_bind, kc, Result.andThen_ok]
    exact hK _ _ h
theorem over_nums (g h : Nat → Int) (t n : Nat) (ht : t ≤ n) : over (nums .u8 h n) 0 (nums .u8 g t) = nums .u8 (fun j => if j < t then g j else h j) n := by
  apply List.ext_getElem?
  intro j
  unfold over
  rw [List.take_zero, List.nil_append, Nat.zero_add, nums_length]
  by_cases h1 : j < t
  · rw [List.getElem?_append_left (by rw [nums_length]; exact h1), nums_at _ _ h1, nums_at _ _ (by omega), if_pos h1]
  · rw [List.getElem?_append_right (by rw [nums_length]; omega), nums_length, List.getElem?_drop, show t + (j - t) = j by omega]
    by_cases h2 : j < n
    · rw [nums_at _ _ h2, nums_at _ _ h2, if_neg h1]
    · rw [nums_out _ _ (by omega), nums_out _ _ (by omega)]
theorem wpList_copy {P : Program} {w w' : World} {ops : Array Oper} {rest : List Oper} {o : Oper} {a : Act} {Q : Exit → Act → World → Prop} (hgd : o.guard = none) (s x : Operand) (t : TypeId)
    (ho : o.op = .call { callee := .builtin .copy, args := #[s, x], argTypes := #[t, t] }) {vs vx v : Value} (hs : a.eval s = vs) (hx : a.eval x = vx)
    (hr : (Builtin.copy_ #[t, t] o.type #[vs, vx]).run P w = .ok v w') (h : wpList P ops Q rest (a.put o.dst v) w') : wpList P ops Q (o :: rest) a w :=
  wpList_plain hgd fun K hK => by
    unfold Oper.wp
    simp [execOp, ho, resolve, invoke, builtin, hs, hx, hr, Result.andThen]
    exact hK _ _ h
theorem size_byte : (Try.prog.info? 5).map (·.size) = some 1 := by kernel_rfl
/-- bytes into an array -/
theorem copy_byt (X o b off dL dC sL sC t ty : Nat) (g : Nat → Int) (W : World) (ht : t = Nat.min sL dL) (hs : Has b off (nums .u8 g t) W) (hd : W.there X o t) :
    (Builtin.copy_ #[26, 26] ty #[.slice (some ⟨X, o, none⟩) dL dC, .slice (some ⟨b, off, none⟩) sL sC]).run Try.prog W = .ok (goInt t) (W.setCells X o (nums .u8 g t)) := by
  have h := run_copy_rows (P := Try.prog) (S := 1) W 26 26 ty _ X o dL dC ⟨b, off, none⟩ sL sC (nums .u8 g t) Try.underlying26 size_byte (by rw [nums_length, Nat.mul_one, ht])
    (fun j v hv => by rw [Addr.add_mid]; exact hs.cell j v hv) (by rw [nums_length]; exact hd) (nums_one _ _ _)
  rw [← ht] at h
  exact h
theorem row_far {w : World} {base size n X : Nat} {e : TypeId} {v : Value} {xs : List Value} (h : w.ownsRow base e size v n xs) (hne : v.ownBlock ≠ some X) (o : Nat) (vs : List Value) : (w.setCells X o vs).ownsRow base e size v n xs := by
  refine ⟨h.1, ?_⟩
  rcases h.2 with hn | ⟨g, cap, cur, rfl, hb, hg, rest⟩
  · exact .inl hn
  · refine .inr ⟨g, cap, cur, rfl, hb, ?_, rest⟩
    rw [World.heap_setCells_other w X o vs (Array.getElem?_eq_some_iff.1 hg).1 (fun e => hne (by rw [e]; rfl))]
    exact hg
/-- a block made behind a row is another one -/
theorem row_new {w : World} {base size n X : Nat} {e : TypeId} {v : Value} {xs : List Value} (h : w.ownsRow base e size v n xs) (hX : w.heap.size ≤ X) : v.ownBlock ≠ some X := fun he => by
  have := (h.lt X he).2
  omega
theorem row_has' {w : World} {base size n g cap : Nat} {e : TypeId} {xs : List Value} (h : w.ownsRow base e size (.slice (some ⟨g, 0, none⟩) n cap) n xs) : Has g 0 xs w ∧ base ≤ g := by
  rcases h.2 with ⟨h0, _⟩ | ⟨g', cap', cur, hv, hg, hh, h1, h2, h3, h4⟩
  · cases h0
  · cases hv
    refine ⟨⟨(Array.getElem?_eq_some_iff.1 hh).1, fun j v hj => ?_⟩, hg⟩
    rw [cell_of_row w g (0 + j) cur e (0, 0) hh, Nat.zero_add]
    rw [← h4] at hj
    rw [List.getElem?_take] at hj
    split at hj
    · simpa using hj
    · cases hj
theorem has_take {b o n m : Nat} {k : IntKind} {f : Nat → Int} {W : World} (h : Has b o (nums k f n) W) (hm : m ≤ n) : Has b o (nums k f m) W := ⟨h.lt, fun j v hv => by
  have hj : j < m := by have := (List.getElem?_eq_some_iff.1 hv).1; rwa [nums_length] at this
  rw [nums_at _ _ hj] at hv
  exact h.cell j v ((nums_at _ _ (by omega)).trans hv)⟩
theorem has_drop {b o n m i : Nat} {k : IntKind} {f : Nat → Int} {W : World} (h : Has b o (nums k f n) W) (hm : i + m ≤ n) : Has b (o + i) (nums k (fun j => f (i + j)) m) W := ⟨h.lt, fun j v hv => by
  have hj : j < m := by have := (List.getElem?_eq_some_iff.1 hv).1; rwa [nums_length] at this
  rw [nums_at _ _ hj] at hv
  rw [Nat.add_assoc]
  exact h.cell (i + j) v ((nums_at _ _ (by omega)).trans hv)⟩
/-- what is done to one elder block K, and to no other one -/
structure But (K : Nat) (w w' : World) : Prop where
  below : Below K w w'
  heap : ∀ b, b < w.heap.size → b ≠ K → w'.heap[b]? = w.heap[b]?
theorem But.refl (K : Nat) (w : World) : But K w w := ⟨Below.refl _ _, fun _ _ _ => rfl⟩
theorem But.trans {K : Nat} {a b c : World} (h : But K a b) (k : But K b c) : But K a c := ⟨h.below.trans k.below, fun i hi hn => (k.heap i (Nat.lt_of_lt_of_le hi h.below.size) hn).trans (h.heap i hi hn)⟩
theorem But.of {K : Nat} {a b : World} (h : Below a.heap.size a b) (hK : K < a.heap.size) : But K a b := ⟨h.mono (Nat.le_of_lt hK), fun i hi _ => h.block i hi⟩
theorem But.store {K o : Nat} {a : World} {vs : List Value} : But K a (a.setCells K o vs) := ⟨Below.setCells (Below.refl _ _) (Nat.le_refl _) vs o, fun i hi hn => World.heap_setCells_other a K o vs hi hn⟩
theorem But.drew {K : Nat} {a : World} (hK : K < a.heap.size) : But K a a.drew := But.of (Below.refl _ _).drew hK
theorem Has.but {b o K : Nat} {cs : List Value} {w w' : World} (h : Has b o cs w) (hb : But K w w') (hn : b ≠ K) : Has b o cs w' where
  lt := Nat.lt_of_lt_of_le h.lt hb.below.size
  cell := fun j v hv => by rw [World.cell?_of_block (w := w) (a := ⟨b, o + j, none⟩) (hb.heap b h.lt hn)]; exact h.cell j v hv
theorem Own.but {b K : Nat} {cs : List Value} {w w' : World} (h : Own b cs w) (hb : But K w w') (hn : b ≠ K) : Own b cs w' where
  lt := Nat.lt_of_lt_of_le h.lt hb.below.size
  cell := fun j v hv => by rw [World.cell?_of_block (w := w) (a := ⟨b, 0 + j, none⟩) (hb.heap b h.lt hn)]; exact h.cell j v hv
  free := fun j hj => by
    rw [World.cell?_of_block (w := w) (a := ⟨b, 0 + j, none⟩) (hb.heap b h.lt hn), World.frozen?_of_block (w := w) (a := ⟨b, 0 + j, none⟩) (hb.heap b h.lt hn)]
    exact h.free j hj
/-- a slice that holds f's first n bytes, not in K -/
def BytN (w : World) (q : Option Addr) (n : Nat) (f : Nat → Int) (K : Nat) : Prop := n = 0 ∨ ∃ b off, q = some ⟨b, off, none⟩ ∧ b ≠ K ∧ Has b off (nums .u8 f n) w
theorem BytN.but {w w' : World} {q : Option Addr} {n K : Nat} {f : Nat → Int} (h : BytN w q n f K) (hb : But K w w') : BytN w' q n f K := by
  rcases h with h | ⟨b, off, h1, h2, h3⟩
  · exact .inl h
  · exact .inr ⟨b, off, h1, h2, h3.but hb h2⟩
theorem BytN.byt {w : World} {q : Option Addr} {n K : Nat} {f : Nat → Int} (h : BytN w q n f K) : Byt w q n f := by
  rcases h with h | ⟨b, off, h1, _, h3⟩
  · exact .inl h
  · exact .inr ⟨b, off, h1, h3⟩
/-- parts, none of them in K -/
def PartsN (w : World) (p : Option Addr) (np : Nat) (g : Nat → Int) (T : Nat → Nat) (K : Nat) : Prop := ∀ k, k < np → ∃ D o q m c, p = some ⟨D, o, none⟩ ∧ D ≠ K ∧ D < w.heap.size ∧ w.cell? ⟨D, o + k, none⟩ = some (.slice q m c) ∧ m ≤ c ∧ c ≤ 9223372036854775807 ∧ T (k + 1) = T k + m ∧ BytN w q m (fun j => g (T k + j)) K
theorem PartsN.but {w w' : World} {p : Option Addr} {np K : Nat} {g : Nat → Int} {T : Nat → Nat} (h : PartsN w p np g T K) (hb : But K w w') : PartsN w' p np g T K := fun k hk => by
  obtain ⟨D, o, q, m, c, h1, h2, h3, h4, h5, h6, h7, h8⟩ := h k hk
  exact ⟨D, o, q, m, c, h1, h2, Nat.lt_of_lt_of_le h3 hb.below.size, (World.cell?_of_block (w := w) (a := ⟨D, o + k, none⟩) (hb.heap D h3 h2)).trans h4, h5, h6, h7, h8.but hb⟩
theorem Parts.away {w w' : World} {p : Option Addr} {np K : Nat} {g : Nat → Int} {T : Nat → Nat} (h : Parts w p np g T) (hb : Below w.heap.size w w') (hK : w.heap.size ≤ K) : PartsN w' p np g T K := fun k hk => by
  obtain ⟨D, o, q, m, c, h1, h2, h3, h4, h5, h6, h7⟩ := h k hk
  refine ⟨D, o, q, m, c, h1, by omega, Nat.lt_of_lt_of_le h2 hb.size, (hb.cell (p := ⟨D, o + k, none⟩) h2).trans h3, h4, h5, h6, ?_⟩
  rcases h7 with h0 | ⟨b, off, e1, e2⟩
  · exact .inl h0
  · exact .inr ⟨b, off, e1, by have := e2.lt; omega, e2.later hb⟩
theorem But.grown {K : Nat} {E a w' : World} {row : Option Nat} (h : But K E a) (hg : a.grownBy w' row) (hr : ∀ k, row = some k → E.heap.size ≤ k) (hK : K < E.heap.size) : But K E w' :=
  ⟨h.below.grown hg (Nat.le_trans (Nat.le_of_lt hK) h.below.size) (fun k hk => Nat.le_trans (Nat.le_of_lt hK) (hr k hk)), fun b hb hn => by
    rw [hg.block b (Nat.lt_of_lt_of_le hb h.below.size) (fun e => by have := hr b e.symm; omega)]
    exact h.heap b hb hn⟩
theorem over_set (cs : List Value) (o : Nat) (a : Value) (h : o < cs.length) : over cs o [a] = cs.set o a := by
  rw [List.set_eq_take_append_cons_drop, if_pos h]; simp [over]
theorem over_over (cs : List Value) (o : Nat) (a b : Value) (h : o < cs.length) : over (over cs o [a]) o [b] = over cs o [b] := by
  rw [over_set cs o a h, over_set cs o b h, over_set _ o b (by simpa using h), List.set_set]
theorem over_at (cs : List Value) (o : Nat) (a : Value) (h : o < cs.length) : (over cs o [a])[o]? = some a := by
  unfold over
  simp [List.getElem?_append, Nat.min_eq_left (Nat.le_of_lt h)]
theorem over_len (cs : List Value) (o : Nat) (a : Value) (h : o < cs.length) : (over cs o [a]).length = cs.length := over_length cs o [a] (by simp; omega)
theorem Own.over1 {K : Nat} {cs : List Value} {W : World} {o : Nat} {a b : Value} (h : Own K (over cs o [a]) W) (ho : o < cs.length) : Own K (over cs o [b]) (W.setCells K o [b]) := by
  have := Own.part (o := o) (vs := [b]) h (by rw [over_len cs o a ho]; simp; omega)
  rwa [over_over cs o a b ho] at this
theorem row_but {w w' : World} {base s n K : Nat} {e : TypeId} {v : Value} {xs : List Value} (h : w.ownsRow base e s v n xs) (hb : But K w w') (hK : v.ownBlock ≠ some K) : w'.ownsRow base e s v n xs := by
  refine ⟨h.1, ?_⟩
  rcases h.2 with h0 | ⟨g, cap, cur, rfl, hg, hh, hr⟩
  · exact .inl h0
  · exact .inr ⟨g, cap, cur, rfl, hg, (hb.heap g (Array.getElem?_eq_some_iff.1 hh).1 (fun e => hK (by simp [Value.ownBlock, e]))).trans hh, hr⟩
theorem BytN.later {w w' : World} {q : Option Addr} {n K : Nat} {f : Nat → Int} (h : BytN w q n f K) (hb : Below w.heap.size w w') : BytN w' q n f K := by
  rcases h with h | ⟨b, off, h1, h2, h3⟩
  · exact .inl h
  · exact .inr ⟨b, off, h1, h2, h3.later hb⟩
theorem row_cap_ {w : World} {base size n c : Nat} {e : TypeId} {p : Option Addr} {xs : List Value} (h : w.ownsRow base e size (.slice p n c) n xs) : n ≤ c ∧ c ≤ 9223372036854775807 := by
  rcases h.2 with ⟨h0, _⟩ | ⟨g, cap, cur, h0, _, _, h1, h2, _⟩
  · cases h0; decide
  · cases h0; unfold maxLen at h2; omega
theorem wpList_append_b {w : World} {ops : Array Oper} {rest : List Oper} {o : Oper} {a : Act} {Q : Exit → Act → World → Prop} (hgd : o.guard = none) (s x : Operand)
    (ho : o.op = .call { callee := .builtin .append, args := #[s, x], argTypes := #[26, 26] }) (base : Nat) (v : Value) (L : Nat) (xs : List Value) (hs : a.eval s = v) (hown : w.ownsRow base 5 1 v L xs)
    (q : Option Addr) (n c : Nat) (f : Nat → Int) (hx : a.eval x = .slice q n c) (hby : Byt w q n f) (h63 : L + n ≤ 140737488355328) (hbase : base ≤ w.heap.size)
    (h : ∀ v' w', w'.ownsRow base 5 1 v' (L + n) (xs ++ nums .u8 f n) → w.grownBy w' v.ownBlock → wpList Try.prog ops Q rest (a.put o.dst v') w') : wpList Try.prog ops Q (o :: rest) a w := by
  obtain ⟨i0, hi, hz0, hz1, hz2⟩ := infoB_parts
  rcases hby with h0 | ⟨b, off, rfl, hb⟩
  · subst h0
    refine wpList_append_zero hgd s x 26 ho Try.underlying26 hi hs hown q c hx (h v w ?_ (World.grownBy.refl w _))
    rw [Nat.add_zero, show nums .u8 f 0 = [] from rfl, List.append_nil]
    exact hown
  · exact wpList_append_own _ hgd s x 26 ho base 5 i0 (.int .u8 0) 1 1 Try.underlying26 hi hz0 hz1 hz2 rfl (by decide) v L xs hs hown ⟨b, off, none⟩ n c (nums .u8 f n) hx (by rw [nums_length, Nat.mul_one]) (fun j u hj => by rw [Addr.add_mid]; exact hb.cell j u hj) (nums_one _ _ _) (by unfold maxLen; omega) (by omega) hbase (fun v' w' h1 h2 _ => h v' w' h1 h2)

end Go.Proofs.Ytbhdlpndmbhaiaa
