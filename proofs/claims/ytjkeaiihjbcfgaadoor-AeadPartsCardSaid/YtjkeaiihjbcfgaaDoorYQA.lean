/- KA CA CB CC CD CE CF, in one text. -/
import Derived.WalkKit
import Derived.Below
import Derived.Deep.RegionHeld3
import Derived.Deep.MidRow
import Derived.WalkLawsBesides
import Derived.Laws.AppendOwn
import Derived.Laws.IdiomCopy
import Derived.Lib.Hide
import Derived.Laws.BitsAllLaws
import Derived.Test.YtjkeaiihjbcfgaaDoorProg
import Derived.Deep.DeepCutAuto
import Derived.Deep.QuietTactic
import Derived.LoopN
import Derived.LoopTactic
/- KA -/
namespace Go.Proofs.YtjkeaiihjbcfgaaDoor
set_option linter.unusedVariables false
set_option maxRecDepth 2000
set_option linter.unusedSimpArgs false
open Go.RowKit

/-- block b holds these values from offset o on -/
structure Has (b o : Nat) (cs : List Value) (W : World) : Prop where
  lt : b < W.heap.size
  cell : W.rangeAt b o cs
/-- block b holds these values from its head on, and may be written -/
structure Own (b : Nat) (cs : List Value) (W : World) : Prop where
  lt : b < W.heap.size
  cell : W.rangeAt b 0 cs
  free : W.there b 0 cs.length

theorem Has.at {b o : Nat} {cs : List Value} {W : World} (h : Has b o cs W) (i : Nat) (v : Value) (hv : cs[i]? = some v) : W.cell? ⟨b, o + i, none⟩ = some v := h.cell i v hv
theorem Own.at {b : Nat} {cs : List Value} {W : World} (h : Own b cs W) (i : Nat) (v : Value) (hv : cs[i]? = some v) : W.cell? ⟨b, i, none⟩ = some v := by
  have := h.cell i v hv
  rwa [Nat.zero_add] at this
theorem Own.ok {b : Nat} {cs : List Value} {W : World} (h : Own b cs W) (i : Nat) (hi : i < cs.length) : W.frozen? ⟨b, i, none⟩ = false := by
  have := (h.free i hi).2
  rwa [Nat.zero_add] at this
theorem Own.has {b : Nat} {cs : List Value} {W : World} (h : Own b cs W) : Has b 0 cs W := ⟨h.lt, h.cell⟩
theorem Has.later {b o : Nat} {cs : List Value} {W W' : World} (h : Has b o cs W) (hb : Below W.heap.size W W') : Has b o cs W' where
  lt := Nat.lt_of_lt_of_le h.lt hb.size
  cell := fun j v hv => by rw [hb.cell (p := ⟨b, o + j, none⟩) h.lt]; exact h.cell j v hv
theorem Has.below {B b o : Nat} {cs : List Value} {W W' : World} (h : Has b o cs W) (hb : Below B W W') (hB : b < B) : Has b o cs W' where
  lt := Nat.lt_of_lt_of_le h.lt hb.size
  cell := fun j v hv => by rw [hb.cell (p := ⟨b, o + j, none⟩) hB]; exact h.cell j v hv
theorem Own.later {b : Nat} {cs : List Value} {W W' : World} (h : Own b cs W) (hb : Below W.heap.size W W') : Own b cs W' where
  lt := Nat.lt_of_lt_of_le h.lt hb.size
  cell := fun j v hv => by rw [hb.cell (p := ⟨b, 0 + j, none⟩) h.lt]; exact h.cell j v hv
  free := fun j hj => by rw [hb.cell (p := ⟨b, 0 + j, none⟩) h.lt, hb.frozen (p := ⟨b, 0 + j, none⟩) h.lt]; exact h.free j hj
theorem Own.alloc {b : Nat} {cs : List Value} {W : World} {o : Obj} (h : Own b cs W) : Own b cs (W.alloc o) := h.later ((Below.refl _ _).alloc (Nat.le_refl _) _)
theorem Own.drew {b : Nat} {cs : List Value} {W : World} (h : Own b cs W) : Own b cs W.drew := h.later (Below.refl _ _).drew
theorem Has.alloc {b i : Nat} {cs : List Value} {W : World} {o : Obj} (h : Has b i cs W) : Has b i cs (W.alloc o) := h.later ((Below.refl _ _).alloc (Nat.le_refl _) _)
theorem Has.drew {b o : Nat} {cs : List Value} {W : World} (h : Has b o cs W) : Has b o cs W.drew := h.later (Below.refl _ _).drew
theorem Own.new (W : World) (cs : List Value) (T : TypeId) : Own W.heap.size cs (W.alloc (.cells cs.toArray T)) where
  lt := by simp
  cell := fun j v hv => by
    rw [Nat.zero_add, World.cell?_alloc_new]
    simpa using hv
  free := fun j hj => by
    constructor
    · rw [Nat.zero_add, World.cell?_alloc_new]
      simp [hj]
    · rw [Nat.zero_add, World.frozen?_alloc_new]
theorem Own.newAt {b : Nat} {W : World} {cs : Array Value} {T : TypeId} (h : b = W.heap.size) : Own b cs.toList (W.alloc (.cells cs T)) := by
  subst h
  have := Own.new W cs.toList T
  simpa using this
theorem Own.store {b : Nat} {cs vs : List Value} {W : World} (h : Own b cs W) (hl : vs.length = cs.length) : Own b vs (W.setCells b 0 vs) where
  lt := by
    have : (W.setCells b 0 vs).heap.size = W.heap.size := by
      have k : ∀ (l : List Value) (o : Nat) (w : World), (w.setCells b o l).heap.size = w.heap.size := by
        intro l
        induction l with
        | nil => intro o w; rfl
        | cons v r ih => intro o w; rw [World.setCells, ih]; simp [World.setCell]
      exact k vs 0 W
    rw [this]; exact h.lt
  cell := World.rangeAt_setCells_same _ _ _ _ (by rw [hl]; exact h.free)
  free := World.there_setCells (by rw [hl]; exact h.free) _ _ _
theorem size_setCells (b : Nat) : ∀ (l : List Value) (o : Nat) (w : World), (w.setCells b o l).heap.size = w.heap.size
  | [], _, _ => rfl
  | v :: r, o, w => by rw [World.setCells, size_setCells b r]; simp [World.setCell]
theorem Own.far {b c o : Nat} {cs vs : List Value} {W : World} (h : Own b cs W) (hn : b ≠ c) : Own b cs (W.setCells c o vs) where
  lt := by rw [size_setCells]; exact h.lt
  cell := World.rangeAt_setCells_apart h.cell _ _ _ (.inl hn)
  free := World.there_setCells h.free _ _ _
theorem Has.far {b c i o : Nat} {cs vs : List Value} {W : World} (h : Has b i cs W) (hn : b ≠ c) : Has b i cs (W.setCells c o vs) where
  lt := by rw [size_setCells]; exact h.lt
  cell := World.rangeAt_setCells_apart h.cell _ _ _ (.inl hn)
/-- values written over a list from o on -/
def over (cs : List Value) (o : Nat) (vs : List Value) : List Value := cs.take o ++ vs ++ cs.drop (o + vs.length)
theorem over_length (cs : List Value) (o : Nat) (vs : List Value) (h : o + vs.length ≤ cs.length) : (over cs o vs).length = cs.length := by
  simp [over]; omega
theorem Own.part {b o : Nat} {cs vs : List Value} {W : World} (h : Own b cs W) (hl : o + vs.length ≤ cs.length) : Own b (over cs o vs) (W.setCells b o vs) where
  lt := by rw [size_setCells]; exact h.lt
  cell := fun j v hv => by
    have tv : W.there b o vs.length := fun i hi => by
      have := h.free (o + i) (by omega)
      rwa [Nat.zero_add] at this
    by_cases h1 : j < o
    · rw [World.cell?_setCells_out b vs o W ⟨b, 0 + j, none⟩ (fun _ _ => .inl (by show 0 + j < o; omega))]
      refine h.cell j v ?_
      rw [← hv]
      simp only [over, List.append_assoc]
      rw [List.getElem?_append_left (by simp; omega), List.getElem?_take_of_lt h1]
    · by_cases h2 : j < o + vs.length
      · have := World.rangeAt_setCells_same W b o vs tv (j - o) v (by
          rw [← hv]
          simp only [over, List.append_assoc]
          rw [List.getElem?_append_right (by simp; omega), List.length_take, Nat.min_eq_left (by omega), List.getElem?_append_left (by omega)])
        rwa [show o + (j - o) = 0 + j by omega] at this
      · rw [World.cell?_setCells_out b vs o W ⟨b, 0 + j, none⟩ (fun _ _ => .inr (by show o + vs.length ≤ 0 + j; omega))]
        refine h.cell j v ?_
        rw [← hv]
        simp only [over]
        rw [List.getElem?_append_right (by simp; omega), List.getElem?_drop]
        congr 1
        simp
        omega
  free := by rw [over_length cs o vs hl]; exact World.there_setCells h.free _ _ _
theorem Below.setCells {B : Nat} {a w : World} (h : Below B a w) {b : Nat} (hp : B ≤ b) : ∀ (vs : List Value) (o : Nat), Below B a (w.setCells b o vs) := fun vs => by
  induction vs generalizing w with
  | nil => intro o; exact h
  | cons v r ih => intro o; rw [World.setCells]; exact ih (h.setCell (p := ⟨b, o, none⟩) hp v) _
theorem Below.al {a w : World} {o : Obj} (h : Below a.heap.size a w) : Below a.heap.size a (w.alloc o) := h.alloc h.size o
/-- a step behind steps -/
theorem Below.next {B : Nat} {a w w' : World} (h : Below B a w) (k : Below w.heap.size w w') (hB : B ≤ w.heap.size) : Below B a w' := h.trans (k.mono hB)
theorem Below.go {a w w' : World} (h : Below a.heap.size a w) (k : Below w.heap.size w w') : Below a.heap.size a w' := h.trans (k.mono h.size)

/-! ### append to a row of the call's own -/
theorem Own.grown {b : Nat} {cs : List Value} {W W' : World} {row : Option Nat} (h : Own b cs W) (hg : W.grownBy W' row) (hr : row ≠ some b) : Own b cs W' where
  lt := Nat.lt_of_lt_of_le h.lt hg.size
  cell := fun j v hv => by rw [World.cell?_of_block (w := W) (a := ⟨b, 0 + j, none⟩) (hg.block b h.lt hr.symm)]; exact h.cell j v hv
  free := fun j hj => by
    rw [World.cell?_of_block (w := W) (a := ⟨b, 0 + j, none⟩) (hg.block b h.lt hr.symm), World.frozen?_of_block (w := W) (a := ⟨b, 0 + j, none⟩) (hg.block b h.lt hr.symm)]
    exact h.free j hj
theorem Has.grown {b o : Nat} {cs : List Value} {W W' : World} {row : Option Nat} (h : Has b o cs W) (hg : W.grownBy W' row) (hr : row ≠ some b) : Has b o cs W' where
  lt := Nat.lt_of_lt_of_le h.lt hg.size
  cell := fun j v hv => by rw [World.cell?_of_block (w := W) (a := ⟨b, o + j, none⟩) (hg.block b h.lt hr.symm)]; exact h.cell j v hv
theorem row_ne {w : World} {base size n b : Nat} {e : TypeId} {v : Value} {xs : List Value} (h : w.ownsRow base e size v n xs) (hb : b < base) : v.ownBlock ≠ some b := by
  rcases h.2 with ⟨rfl, _⟩ | ⟨g, cap, cur, rfl, hg, _⟩
  · simp [Value.ownBlock]
  · simp [Value.ownBlock]; omega
theorem row_ge {w : World} {base size n : Nat} {e : TypeId} {v : Value} {xs : List Value} (h : w.ownsRow base e size v n xs) : ∀ k, v.ownBlock = some k → base ≤ k := by
  intro k hk
  rcases h.2 with ⟨rfl, _⟩ | ⟨g, cap, cur, rfl, hg, _⟩
  · simp [Value.ownBlock] at hk
  · simp [Value.ownBlock] at hk; omega
theorem row_later {w w' : World} {base size n : Nat} {e : TypeId} {v : Value} {xs : List Value} (h : w.ownsRow base e size v n xs) (hb : Below w.heap.size w w') : w'.ownsRow base e size v n xs := by
  refine ⟨h.1, ?_⟩
  rcases h.2 with h0 | ⟨g, cap, cur, hv, hg, hh, r⟩
  · exact .inl h0
  · refine .inr ⟨g, cap, cur, hv, hg, ?_, r⟩
    rw [hb.block g (Array.getElem?_eq_some_iff.1 hh).1]; exact hh
theorem row_has {w : World} {base size n g cap : Nat} {e : TypeId} {xs : List Value} (h : w.ownsRow base e size (.slice (some ⟨g, 0, none⟩) n cap) n xs) : Has g 0 xs w ∧ base ≤ g ∧ n ≤ cap ∧ cap ≤ maxLen := by
  rcases h.2 with ⟨h0, _⟩ | ⟨g', cap', cur, hv, hg, hh, h1, h2, h3, h4⟩
  · cases h0
  · cases hv
    refine ⟨⟨(Array.getElem?_eq_some_iff.1 hh).1, fun j v hj => ?_⟩, hg, h1, h2⟩
    rw [cell_of_row w g (0 + j) cur e (0, 0) hh, Nat.zero_add]
    rw [← h4] at hj
    rw [List.getElem?_take] at hj
    split at hj
    · simpa using hj
    · cases hj
/-- AS ONE STEP OF A REGION THAT DRAWS ITS ORDER: what is laid goes behind the call's own row. -/
theorem step_append_to {P : Program} {ops : Array Oper} {o : Oper} {a : Act} {w : World} {K : Act → World → Prop} {Q : Exit → Act → World → Prop} {E : Prop}
    (hg : o.guard = none) (s x : Operand) (t : TypeId) (hop : o.op = Op.call { callee := Callee.builtin Builtin.append, args := #[s, x], argTypes := #[t, t] })
    (e : TypeId) (i : TypeInfo) (z : Value) (size bytes : Nat) (h1 : P.underlying t = some (.slice e)) (h2 : P.info? e = some i) (h3 : i.zero = some z) (h4 : i.size = size) (h5 : i.bytes = bytes) (h6 : z.cells.size = size) (h7 : 0 < size)
    (base : Nat) (v : Value) (n : Nat) (xs : List Value) (hs : a.eval s = v) (hown : w.ownsRow base e size v n xs)
    (ad : Addr) (m c : Nat) (news : List Value) (hx : a.eval x = .slice (some ad) m c) (hn : news.length = m * size) (hc : ∀ j u, news[j]? = some u → w.cell? (ad.add j) = some u) (h1c : ∀ u ∈ news, u.oneCell' = true)
    (b1 : n + m ≤ maxLen) (b2 : (n + m) * bytes ≤ 140737488355328) (hb : base ≤ w.heap.size)
    (hK : ∀ v' w', w'.ownsRow base e size v' (n + m) (xs ++ news) → w.grownBy w' v.ownBlock → K (a.put o.dst v') w') :
    if Region.wanted o (yielded ops a.tmps) = true then Oper.wp P o a w K Q else E := by
  have hw : Region.wanted o (yielded ops a.tmps) = true := by simp [Region.wanted, hg]
  rw [if_pos hw]
  obtain ⟨v', w', hrun, r1, r2, _⟩ := run_append_own (P := P) w base t o.type e i z size bytes h1 h2 h3 h4 h5 h6 h7 v n xs hown ad m c news hn hc h1c b1 b2 hb
  unfold Oper.wp
  simp [execOp, hop, resolve, invoke, builtin, hs, hx, hrun, Result.andThen]
  exact hK v' w' r1 r2
/-- the cells of a block that is known whole, as an append asks them -/
theorem Own.news {b : Nat} {cs : List Value} {W : World} (h : Own b cs W) : ∀ j u, cs[j]? = some u → W.cell? ((⟨b, 0, none⟩ : Addr).add j) = some u := fun j u hj => by
  rw [Addr.add_mid, Nat.zero_add]; exact h.at j u hj
/-- the call's own rows lie behind what was there -/
theorem Below.gro {a w w' : World} {base n size : Nat} {e : TypeId} {v : Value} {xs : List Value} (h : Below a.heap.size a w) (hg : w.grownBy w' v.ownBlock) (ho : w.ownsRow base e size v n xs) (hb : a.heap.size ≤ base) : Below a.heap.size a w' :=
  h.grown hg h.size fun k hk => Nat.le_trans hb (row_ge ho k hk)

/-! ### copy, whatever the elements' size -/
theorem run_copy_rows {P : Program} (w : World) (dT sT ty elem S : Nat) (b o dLen dCap : Nat) (a : Addr) (sLen sCap : Nat) (cs : List Value)
    (hu : P.underlying dT = some (.slice elem)) (hs : (P.info? elem).map (·.size) = some S) (hn : cs.length = Nat.min sLen dLen * S)
    (hsrc : ∀ j v, cs[j]? = some v → w.cell? (a.add j) = some v) (hc : w.there b o cs.length) (h1 : ∀ v ∈ cs, v.oneCell' = true) :
    (Builtin.copy_ #[dT, sT] ty #[.slice (some ⟨b, o, none⟩) dLen dCap, .slice (some a) sLen sCap]).run P w = .ok (goInt (Nat.min sLen dLen)) (w.setCells b o cs) := by
  have hl := run_loadCells_list (P := P) w a cs hsrc
  have hst := run_storeCells_cells (P := P) b o cs 0 w (fun j hj => by simpa using (hc j hj).1) (fun j hj => by simpa using (hc j hj).2) h1
  cases hq : P.info? elem with
  | none => simp [hq] at hs
  | some i =>
    have hi : i.size = S := by simpa [hq] using hs
    simp [Builtin.copy_, run_underlying hu, Builtin.lenOf, Builtin.firstCells, sizeOf, typeInfo, hq, hi, ← hn, hl, hst]
theorem run_copy_zero {P : Program} (w : World) (dT sT ty elem S : Nat) (d a : Option Addr) (dLen dCap sLen sCap : Nat) (hu : P.underlying dT = some (.slice elem)) (hs : (P.info? elem).map (·.size) = some S) (hn : Nat.min sLen dLen = 0) :
    (Builtin.copy_ #[dT, sT] ty #[.slice d dLen dCap, .slice a sLen sCap]).run P w = .ok (goInt 0) w := by
  cases hq : P.info? elem with
  | none => simp [hq] at hs
  | some i =>
    have hl : ∀ (x : Addr), (loadCells x 0).run P w = .ok #[] w := fun x => by simpa using run_loadCells_list (P := P) w x [] (by simp)
    cases d <;> cases a <;> simp [Builtin.copy_, run_underlying hu, Builtin.lenOf, Builtin.firstCells, sizeOf, typeInfo, hq, hn, storeCells, hl]

/-! ### min and max of three, behind a name: the walk does not part at them -/
def mn3 (x y z : Int) : Int := if z < (if y < x then y else x) then z else (if y < x then y else x)
def mx3 (x y z : Int) : Int := if (if x < y then y else x) < z then z else (if x < y then y else x)
theorem mn3_lt (x y z c : Int) : mn3 x y z < c ↔ x < c ∨ y < c ∨ z < c := by unfold mn3; split <;> split <;> omega
theorem mx3_gt (x y z c : Int) : c < mx3 x y z ↔ c < x ∨ c < y ∨ c < z := by unfold mx3; split <;> split <;> omega
theorem run_mn3 {P : Program} {w : World} (ts : Array TypeId) (t : TypeId) (k k' k'' : IntKind) (x y z : Int) : (Builtin.min_ ts t #[.int k x, .int k' y, .int k'' z]).run P w = .ok (.int k (mn3 x y z)) w := by
  rw [run_min_int3]; rfl
theorem run_mx3 {P : Program} {w : World} (ts : Array TypeId) (t : TypeId) (k k' k'' : IntKind) (x y z : Int) : (Builtin.max_ ts t #[.int k x, .int k' y, .int k'' z]).run P w = .ok (.int k (mx3 x y z)) w := by
  rw [run_max_int3]; rfl

/-! ### the limbs of a long 'and' -/
theorem p0_ {a0 r : Prop} (h : a0 ∧ r) : a0 := h.1
theorem p1_ {a0 a1 r : Prop} (h : a0 ∧ a1 ∧ r) : a1 := h.2.1
theorem q1_ {a0 a1 : Prop} (h : a0 ∧ a1) : a1 := h.2
theorem p2_ {a0 a1 a2 r : Prop} (h : a0 ∧ a1 ∧ a2 ∧ r) : a2 := h.2.2.1
theorem q2_ {a0 a1 a2 : Prop} (h : a0 ∧ a1 ∧ a2) : a2 := h.2.2
theorem p3_ {a0 a1 a2 a3 r : Prop} (h : a0 ∧ a1 ∧ a2 ∧ a3 ∧ r) : a3 := h.2.2.2.1
theorem q3_ {a0 a1 a2 a3 : Prop} (h : a0 ∧ a1 ∧ a2 ∧ a3) : a3 := h.2.2.2
theorem p4_ {a0 a1 a2 a3 a4 r : Prop} (h : a0 ∧ a1 ∧ a2 ∧ a3 ∧ a4 ∧ r) : a4 := h.2.2.2.2.1
theorem q4_ {a0 a1 a2 a3 a4 : Prop} (h : a0 ∧ a1 ∧ a2 ∧ a3 ∧ a4) : a4 := h.2.2.2.2
theorem p5_ {a0 a1 a2 a3 a4 a5 r : Prop} (h : a0 ∧ a1 ∧ a2 ∧ a3 ∧ a4 ∧ a5 ∧ r) : a5 := h.2.2.2.2.2.1
theorem q5_ {a0 a1 a2 a3 a4 a5 : Prop} (h : a0 ∧ a1 ∧ a2 ∧ a3 ∧ a4 ∧ a5) : a5 := h.2.2.2.2.2
theorem p6_ {a0 a1 a2 a3 a4 a5 a6 r : Prop} (h : a0 ∧ a1 ∧ a2 ∧ a3 ∧ a4 ∧ a5 ∧ a6 ∧ r) : a6 := h.2.2.2.2.2.2.1
theorem q6_ {a0 a1 a2 a3 a4 a5 a6 : Prop} (h : a0 ∧ a1 ∧ a2 ∧ a3 ∧ a4 ∧ a5 ∧ a6) : a6 := h.2.2.2.2.2.2
theorem p7_ {a0 a1 a2 a3 a4 a5 a6 a7 r : Prop} (h : a0 ∧ a1 ∧ a2 ∧ a3 ∧ a4 ∧ a5 ∧ a6 ∧ a7 ∧ r) : a7 := h.2.2.2.2.2.2.2.1
theorem q7_ {a0 a1 a2 a3 a4 a5 a6 a7 : Prop} (h : a0 ∧ a1 ∧ a2 ∧ a3 ∧ a4 ∧ a5 ∧ a6 ∧ a7) : a7 := h.2.2.2.2.2.2.2
theorem p8_ {a0 a1 a2 a3 a4 a5 a6 a7 a8 r : Prop} (h : a0 ∧ a1 ∧ a2 ∧ a3 ∧ a4 ∧ a5 ∧ a6 ∧ a7 ∧ a8 ∧ r) : a8 := h.2.2.2.2.2.2.2.2.1
theorem q8_ {a0 a1 a2 a3 a4 a5 a6 a7 a8 : Prop} (h : a0 ∧ a1 ∧ a2 ∧ a3 ∧ a4 ∧ a5 ∧ a6 ∧ a7 ∧ a8) : a8 := h.2.2.2.2.2.2.2.2
theorem p9_ {a0 a1 a2 a3 a4 a5 a6 a7 a8 a9 r : Prop} (h : a0 ∧ a1 ∧ a2 ∧ a3 ∧ a4 ∧ a5 ∧ a6 ∧ a7 ∧ a8 ∧ a9 ∧ r) : a9 := h.2.2.2.2.2.2.2.2.2.1
theorem q9_ {a0 a1 a2 a3 a4 a5 a6 a7 a8 a9 : Prop} (h : a0 ∧ a1 ∧ a2 ∧ a3 ∧ a4 ∧ a5 ∧ a6 ∧ a7 ∧ a8 ∧ a9) : a9 := h.2.2.2.2.2.2.2.2.2
theorem p10_ {a0 a1 a2 a3 a4 a5 a6 a7 a8 a9 a10 r : Prop} (h : a0 ∧ a1 ∧ a2 ∧ a3 ∧ a4 ∧ a5 ∧ a6 ∧ a7 ∧ a8 ∧ a9 ∧ a10 ∧ r) : a10 := h.2.2.2.2.2.2.2.2.2.2.1
theorem q10_ {a0 a1 a2 a3 a4 a5 a6 a7 a8 a9 a10 : Prop} (h : a0 ∧ a1 ∧ a2 ∧ a3 ∧ a4 ∧ a5 ∧ a6 ∧ a7 ∧ a8 ∧ a9 ∧ a10) : a10 := h.2.2.2.2.2.2.2.2.2.2
theorem p11_ {a0 a1 a2 a3 a4 a5 a6 a7 a8 a9 a10 a11 r : Prop} (h : a0 ∧ a1 ∧ a2 ∧ a3 ∧ a4 ∧ a5 ∧ a6 ∧ a7 ∧ a8 ∧ a9 ∧ a10 ∧ a11 ∧ r) : a11 := h.2.2.2.2.2.2.2.2.2.2.2.1
theorem q11_ {a0 a1 a2 a3 a4 a5 a6 a7 a8 a9 a10 a11 : Prop} (h : a0 ∧ a1 ∧ a2 ∧ a3 ∧ a4 ∧ a5 ∧ a6 ∧ a7 ∧ a8 ∧ a9 ∧ a10 ∧ a11) : a11 := h.2.2.2.2.2.2.2.2.2.2.2
theorem p12_ {a0 a1 a2 a3 a4 a5 a6 a7 a8 a9 a10 a11 a12 r : Prop} (h : a0 ∧ a1 ∧ a2 ∧ a3 ∧ a4 ∧ a5 ∧ a6 ∧ a7 ∧ a8 ∧ a9 ∧ a10 ∧ a11 ∧ a12 ∧ r) : a12 := h.2.2.2.2.2.2.2.2.2.2.2.2.1
theorem q12_ {a0 a1 a2 a3 a4 a5 a6 a7 a8 a9 a10 a11 a12 : Prop} (h : a0 ∧ a1 ∧ a2 ∧ a3 ∧ a4 ∧ a5 ∧ a6 ∧ a7 ∧ a8 ∧ a9 ∧ a10 ∧ a11 ∧ a12) : a12 := h.2.2.2.2.2.2.2.2.2.2.2.2
theorem p13_ {a0 a1 a2 a3 a4 a5 a6 a7 a8 a9 a10 a11 a12 a13 r : Prop} (h : a0 ∧ a1 ∧ a2 ∧ a3 ∧ a4 ∧ a5 ∧ a6 ∧ a7 ∧ a8 ∧ a9 ∧ a10 ∧ a11 ∧ a12 ∧ a13 ∧ r) : a13 := h.2.2.2.2.2.2.2.2.2.2.2.2.2.1
theorem q13_ {a0 a1 a2 a3 a4 a5 a6 a7 a8 a9 a10 a11 a12 a13 : Prop} (h : a0 ∧ a1 ∧ a2 ∧ a3 ∧ a4 ∧ a5 ∧ a6 ∧ a7 ∧ a8 ∧ a9 ∧ a10 ∧ a11 ∧ a12 ∧ a13) : a13 := h.2.2.2.2.2.2.2.2.2.2.2.2.2
theorem p14_ {a0 a1 a2 a3 a4 a5 a6 a7 a8 a9 a10 a11 a12 a13 a14 r : Prop} (h : a0 ∧ a1 ∧ a2 ∧ a3 ∧ a4 ∧ a5 ∧ a6 ∧ a7 ∧ a8 ∧ a9 ∧ a10 ∧ a11 ∧ a12 ∧ a13 ∧ a14 ∧ r) : a14 := h.2.2.2.2.2.2.2.2.2.2.2.2.2.2.1
theorem q14_ {a0 a1 a2 a3 a4 a5 a6 a7 a8 a9 a10 a11 a12 a13 a14 : Prop} (h : a0 ∧ a1 ∧ a2 ∧ a3 ∧ a4 ∧ a5 ∧ a6 ∧ a7 ∧ a8 ∧ a9 ∧ a10 ∧ a11 ∧ a12 ∧ a13 ∧ a14) : a14 := h.2.2.2.2.2.2.2.2.2.2.2.2.2.2
theorem p15_ {a0 a1 a2 a3 a4 a5 a6 a7 a8 a9 a10 a11 a12 a13 a14 a15 r : Prop} (h : a0 ∧ a1 ∧ a2 ∧ a3 ∧ a4 ∧ a5 ∧ a6 ∧ a7 ∧ a8 ∧ a9 ∧ a10 ∧ a11 ∧ a12 ∧ a13 ∧ a14 ∧ a15 ∧ r) : a15 := h.2.2.2.2.2.2.2.2.2.2.2.2.2.2.2.1
theorem q15_ {a0 a1 a2 a3 a4 a5 a6 a7 a8 a9 a10 a11 a12 a13 a14 a15 : Prop} (h : a0 ∧ a1 ∧ a2 ∧ a3 ∧ a4 ∧ a5 ∧ a6 ∧ a7 ∧ a8 ∧ a9 ∧ a10 ∧ a11 ∧ a12 ∧ a13 ∧ a14 ∧ a15) : a15 := h.2.2.2.2.2.2.2.2.2.2.2.2.2.2.2
theorem p16_ {a0 a1 a2 a3 a4 a5 a6 a7 a8 a9 a10 a11 a12 a13 a14 a15 a16 r : Prop} (h : a0 ∧ a1 ∧ a2 ∧ a3 ∧ a4 ∧ a5 ∧ a6 ∧ a7 ∧ a8 ∧ a9 ∧ a10 ∧ a11 ∧ a12 ∧ a13 ∧ a14 ∧ a15 ∧ a16 ∧ r) : a16 := h.2.2.2.2.2.2.2.2.2.2.2.2.2.2.2.2.1
theorem q16_ {a0 a1 a2 a3 a4 a5 a6 a7 a8 a9 a10 a11 a12 a13 a14 a15 a16 : Prop} (h : a0 ∧ a1 ∧ a2 ∧ a3 ∧ a4 ∧ a5 ∧ a6 ∧ a7 ∧ a8 ∧ a9 ∧ a10 ∧ a11 ∧ a12 ∧ a13 ∧ a14 ∧ a15 ∧ a16) : a16 := h.2.2.2.2.2.2.2.2.2.2.2.2.2.2.2.2
theorem p17_ {a0 a1 a2 a3 a4 a5 a6 a7 a8 a9 a10 a11 a12 a13 a14 a15 a16 a17 r : Prop} (h : a0 ∧ a1 ∧ a2 ∧ a3 ∧ a4 ∧ a5 ∧ a6 ∧ a7 ∧ a8 ∧ a9 ∧ a10 ∧ a11 ∧ a12 ∧ a13 ∧ a14 ∧ a15 ∧ a16 ∧ a17 ∧ r) : a17 := h.2.2.2.2.2.2.2.2.2.2.2.2.2.2.2.2.2.1
theorem q17_ {a0 a1 a2 a3 a4 a5 a6 a7 a8 a9 a10 a11 a12 a13 a14 a15 a16 a17 : Prop} (h : a0 ∧ a1 ∧ a2 ∧ a3 ∧ a4 ∧ a5 ∧ a6 ∧ a7 ∧ a8 ∧ a9 ∧ a10 ∧ a11 ∧ a12 ∧ a13 ∧ a14 ∧ a15 ∧ a16 ∧ a17) : a17 := h.2.2.2.2.2.2.2.2.2.2.2.2.2.2.2.2.2
theorem p18_ {a0 a1 a2 a3 a4 a5 a6 a7 a8 a9 a10 a11 a12 a13 a14 a15 a16 a17 a18 r : Prop} (h : a0 ∧ a1 ∧ a2 ∧ a3 ∧ a4 ∧ a5 ∧ a6 ∧ a7 ∧ a8 ∧ a9 ∧ a10 ∧ a11 ∧ a12 ∧ a13 ∧ a14 ∧ a15 ∧ a16 ∧ a17 ∧ a18 ∧ r) : a18 := h.2.2.2.2.2.2.2.2.2.2.2.2.2.2.2.2.2.2.1
theorem q18_ {a0 a1 a2 a3 a4 a5 a6 a7 a8 a9 a10 a11 a12 a13 a14 a15 a16 a17 a18 : Prop} (h : a0 ∧ a1 ∧ a2 ∧ a3 ∧ a4 ∧ a5 ∧ a6 ∧ a7 ∧ a8 ∧ a9 ∧ a10 ∧ a11 ∧ a12 ∧ a13 ∧ a14 ∧ a15 ∧ a16 ∧ a17 ∧ a18) : a18 := h.2.2.2.2.2.2.2.2.2.2.2.2.2.2.2.2.2.2
theorem p19_ {a0 a1 a2 a3 a4 a5 a6 a7 a8 a9 a10 a11 a12 a13 a14 a15 a16 a17 a18 a19 r : Prop} (h : a0 ∧ a1 ∧ a2 ∧ a3 ∧ a4 ∧ a5 ∧ a6 ∧ a7 ∧ a8 ∧ a9 ∧ a10 ∧ a11 ∧ a12 ∧ a13 ∧ a14 ∧ a15 ∧ a16 ∧ a17 ∧ a18 ∧ a19 ∧ r) : a19 := h.2.2.2.2.2.2.2.2.2.2.2.2.2.2.2.2.2.2.2.1
theorem q19_ {a0 a1 a2 a3 a4 a5 a6 a7 a8 a9 a10 a11 a12 a13 a14 a15 a16 a17 a18 a19 : Prop} (h : a0 ∧ a1 ∧ a2 ∧ a3 ∧ a4 ∧ a5 ∧ a6 ∧ a7 ∧ a8 ∧ a9 ∧ a10 ∧ a11 ∧ a12 ∧ a13 ∧ a14 ∧ a15 ∧ a16 ∧ a17 ∧ a18 ∧ a19) : a19 := h.2.2.2.2.2.2.2.2.2.2.2.2.2.2.2.2.2.2.2
theorem p20_ {a0 a1 a2 a3 a4 a5 a6 a7 a8 a9 a10 a11 a12 a13 a14 a15 a16 a17 a18 a19 a20 r : Prop} (h : a0 ∧ a1 ∧ a2 ∧ a3 ∧ a4 ∧ a5 ∧ a6 ∧ a7 ∧ a8 ∧ a9 ∧ a10 ∧ a11 ∧ a12 ∧ a13 ∧ a14 ∧ a15 ∧ a16 ∧ a17 ∧ a18 ∧ a19 ∧ a20 ∧ r) : a20 := h.2.2.2.2.2.2.2.2.2.2.2.2.2.2.2.2.2.2.2.2.1
theorem q20_ {a0 a1 a2 a3 a4 a5 a6 a7 a8 a9 a10 a11 a12 a13 a14 a15 a16 a17 a18 a19 a20 : Prop} (h : a0 ∧ a1 ∧ a2 ∧ a3 ∧ a4 ∧ a5 ∧ a6 ∧ a7 ∧ a8 ∧ a9 ∧ a10 ∧ a11 ∧ a12 ∧ a13 ∧ a14 ∧ a15 ∧ a16 ∧ a17 ∧ a18 ∧ a19 ∧ a20) : a20 := h.2.2.2.2.2.2.2.2.2.2.2.2.2.2.2.2.2.2.2.2
theorem p21_ {a0 a1 a2 a3 a4 a5 a6 a7 a8 a9 a10 a11 a12 a13 a14 a15 a16 a17 a18 a19 a20 a21 r : Prop} (h : a0 ∧ a1 ∧ a2 ∧ a3 ∧ a4 ∧ a5 ∧ a6 ∧ a7 ∧ a8 ∧ a9 ∧ a10 ∧ a11 ∧ a12 ∧ a13 ∧ a14 ∧ a15 ∧ a16 ∧ a17 ∧ a18 ∧ a19 ∧ a20 ∧ a21 ∧ r) : a21 := h.2.2.2.2.2.2.2.2.2.2.2.2.2.2.2.2.2.2.2.2.2.1
theorem q21_ {a0 a1 a2 a3 a4 a5 a6 a7 a8 a9 a10 a11 a12 a13 a14 a15 a16 a17 a18 a19 a20 a21 : Prop} (h : a0 ∧ a1 ∧ a2 ∧ a3 ∧ a4 ∧ a5 ∧ a6 ∧ a7 ∧ a8 ∧ a9 ∧ a10 ∧ a11 ∧ a12 ∧ a13 ∧ a14 ∧ a15 ∧ a16 ∧ a17 ∧ a18 ∧ a19 ∧ a20 ∧ a21) : a21 := h.2.2.2.2.2.2.2.2.2.2.2.2.2.2.2.2.2.2.2.2.2
theorem p22_ {a0 a1 a2 a3 a4 a5 a6 a7 a8 a9 a10 a11 a12 a13 a14 a15 a16 a17 a18 a19 a20 a21 a22 r : Prop} (h : a0 ∧ a1 ∧ a2 ∧ a3 ∧ a4 ∧ a5 ∧ a6 ∧ a7 ∧ a8 ∧ a9 ∧ a10 ∧ a11 ∧ a12 ∧ a13 ∧ a14 ∧ a15 ∧ a16 ∧ a17 ∧ a18 ∧ a19 ∧ a20 ∧ a21 ∧ a22 ∧ r) : a22 := h.2.2.2.2.2.2.2.2.2.2.2.2.2.2.2.2.2.2.2.2.2.2.1
theorem q22_ {a0 a1 a2 a3 a4 a5 a6 a7 a8 a9 a10 a11 a12 a13 a14 a15 a16 a17 a18 a19 a20 a21 a22 : Prop} (h : a0 ∧ a1 ∧ a2 ∧ a3 ∧ a4 ∧ a5 ∧ a6 ∧ a7 ∧ a8 ∧ a9 ∧ a10 ∧ a11 ∧ a12 ∧ a13 ∧ a14 ∧ a15 ∧ a16 ∧ a17 ∧ a18 ∧ a19 ∧ a20 ∧ a21 ∧ a22) : a22 := h.2.2.2.2.2.2.2.2.2.2.2.2.2.2.2.2.2.2.2.2.2.2
theorem p23_ {a0 a1 a2 a3 a4 a5 a6 a7 a8 a9 a10 a11 a12 a13 a14 a15 a16 a17 a18 a19 a20 a21 a22 a23 r : Prop} (h : a0 ∧ a1 ∧ a2 ∧ a3 ∧ a4 ∧ a5 ∧ a6 ∧ a7 ∧ a8 ∧ a9 ∧ a10 ∧ a11 ∧ a12 ∧ a13 ∧ a14 ∧ a15 ∧ a16 ∧ a17 ∧ a18 ∧ a19 ∧ a20 ∧ a21 ∧ a22 ∧ a23 ∧ r) : a23 := h.2.2.2.2.2.2.2.2.2.2.2.2.2.2.2.2.2.2.2.2.2.2.2.1
theorem q23_ {a0 a1 a2 a3 a4 a5 a6 a7 a8 a9 a10 a11 a12 a13 a14 a15 a16 a17 a18 a19 a20 a21 a22 a23 : Prop} (h : a0 ∧ a1 ∧ a2 ∧ a3 ∧ a4 ∧ a5 ∧ a6 ∧ a7 ∧ a8 ∧ a9 ∧ a10 ∧ a11 ∧ a12 ∧ a13 ∧ a14 ∧ a15 ∧ a16 ∧ a17 ∧ a18 ∧ a19 ∧ a20 ∧ a21 ∧ a22 ∧ a23) : a23 := h.2.2.2.2.2.2.2.2.2.2.2.2.2.2.2.2.2.2.2.2.2.2.2
theorem p24_ {a0 a1 a2 a3 a4 a5 a6 a7 a8 a9 a10 a11 a12 a13 a14 a15 a16 a17 a18 a19 a20 a21 a22 a23 a24 r : Prop} (h : a0 ∧ a1 ∧ a2 ∧ a3 ∧ a4 ∧ a5 ∧ a6 ∧ a7 ∧ a8 ∧ a9 ∧ a10 ∧ a11 ∧ a12 ∧ a13 ∧ a14 ∧ a15 ∧ a16 ∧ a17 ∧ a18 ∧ a19 ∧ a20 ∧ a21 ∧ a22 ∧ a23 ∧ a24 ∧ r) : a24 := h.2.2.2.2.2.2.2.2.2.2.2.2.2.2.2.2.2.2.2.2.2.2.2.2.1
theorem q24_ {a0 a1 a2 a3 a4 a5 a6 a7 a8 a9 a10 a11 a12 a13 a14 a15 a16 a17 a18 a19 a20 a21 a22 a23 a24 : Prop} (h : a0 ∧ a1 ∧ a2 ∧ a3 ∧ a4 ∧ a5 ∧ a6 ∧ a7 ∧ a8 ∧ a9 ∧ a10 ∧ a11 ∧ a12 ∧ a13 ∧ a14 ∧ a15 ∧ a16 ∧ a17 ∧ a18 ∧ a19 ∧ a20 ∧ a21 ∧ a22 ∧ a23 ∧ a24) : a24 := h.2.2.2.2.2.2.2.2.2.2.2.2.2.2.2.2.2.2.2.2.2.2.2.2
theorem p25_ {a0 a1 a2 a3 a4 a5 a6 a7 a8 a9 a10 a11 a12 a13 a14 a15 a16 a17 a18 a19 a20 a21 a22 a23 a24 a25 r : Prop} (h : a0 ∧ a1 ∧ a2 ∧ a3 ∧ a4 ∧ a5 ∧ a6 ∧ a7 ∧ a8 ∧ a9 ∧ a10 ∧ a11 ∧ a12 ∧ a13 ∧ a14 ∧ a15 ∧ a16 ∧ a17 ∧ a18 ∧ a19 ∧ a20 ∧ a21 ∧ a22 ∧ a23 ∧ a24 ∧ a25 ∧ r) : a25 := h.2.2.2.2.2.2.2.2.2.2.2.2.2.2.2.2.2.2.2.2.2.2.2.2.2.1
theorem q25_ {a0 a1 a2 a3 a4 a5 a6 a7 a8 a9 a10 a11 a12 a13 a14 a15 a16 a17 a18 a19 a20 a21 a22 a23 a24 a25 : Prop} (h : a0 ∧ a1 ∧ a2 ∧ a3 ∧ a4 ∧ a5 ∧ a6 ∧ a7 ∧ a8 ∧ a9 ∧ a10 ∧ a11 ∧ a12 ∧ a13 ∧ a14 ∧ a15 ∧ a16 ∧ a17 ∧ a18 ∧ a19 ∧ a20 ∧ a21 ∧ a22 ∧ a23 ∧ a24 ∧ a25) : a25 := h.2.2.2.2.2.2.2.2.2.2.2.2.2.2.2.2.2.2.2.2.2.2.2.2.2
theorem p26_ {a0 a1 a2 a3 a4 a5 a6 a7 a8 a9 a10 a11 a12 a13 a14 a15 a16 a17 a18 a19 a20 a21 a22 a23 a24 a25 a26 r : Prop} (h : a0 ∧ a1 ∧ a2 ∧ a3 ∧ a4 ∧ a5 ∧ a6 ∧ a7 ∧ a8 ∧ a9 ∧ a10 ∧ a11 ∧ a12 ∧ a13 ∧ a14 ∧ a15 ∧ a16 ∧ a17 ∧ a18 ∧ a19 ∧ a20 ∧ a21 ∧ a22 ∧ a23 ∧ a24 ∧ a25 ∧ a26 ∧ r) : a26 := h.2.2.2.2.2.2.2.2.2.2.2.2.2.2.2.2.2.2.2.2.2.2.2.2.2.2.1
theorem q26_ {a0 a1 a2 a3 a4 a5 a6 a7 a8 a9 a10 a11 a12 a13 a14 a15 a16 a17 a18 a19 a20 a21 a22 a23 a24 a25 a26 : Prop} (h : a0 ∧ a1 ∧ a2 ∧ a3 ∧ a4 ∧ a5 ∧ a6 ∧ a7 ∧ a8 ∧ a9 ∧ a10 ∧ a11 ∧ a12 ∧ a13 ∧ a14 ∧ a15 ∧ a16 ∧ a17 ∧ a18 ∧ a19 ∧ a20 ∧ a21 ∧ a22 ∧ a23 ∧ a24 ∧ a25 ∧ a26) : a26 := h.2.2.2.2.2.2.2.2.2.2.2.2.2.2.2.2.2.2.2.2.2.2.2.2.2.2
theorem p27_ {a0 a1 a2 a3 a4 a5 a6 a7 a8 a9 a10 a11 a12 a13 a14 a15 a16 a17 a18 a19 a20 a21 a22 a23 a24 a25 a26 a27 r : Prop} (h : a0 ∧ a1 ∧ a2 ∧ a3 ∧ a4 ∧ a5 ∧ a6 ∧ a7 ∧ a8 ∧ a9 ∧ a10 ∧ a11 ∧ a12 ∧ a13 ∧ a14 ∧ a15 ∧ a16 ∧ a17 ∧ a18 ∧ a19 ∧ a20 ∧ a21 ∧ a22 ∧ a23 ∧ a24 ∧ a25 ∧ a26 ∧ a27 ∧ r) : a27 := h.2.2.2.2.2.2.2.2.2.2.2.2.2.2.2.2.2.2.2.2.2.2.2.2.2.2.2.1
theorem q27_ {a0 a1 a2 a3 a4 a5 a6 a7 a8 a9 a10 a11 a12 a13 a14 a15 a16 a17 a18 a19 a20 a21 a22 a23 a24 a25 a26 a27 : Prop} (h : a0 ∧ a1 ∧ a2 ∧ a3 ∧ a4 ∧ a5 ∧ a6 ∧ a7 ∧ a8 ∧ a9 ∧ a10 ∧ a11 ∧ a12 ∧ a13 ∧ a14 ∧ a15 ∧ a16 ∧ a17 ∧ a18 ∧ a19 ∧ a20 ∧ a21 ∧ a22 ∧ a23 ∧ a24 ∧ a25 ∧ a26 ∧ a27) : a27 := h.2.2.2.2.2.2.2.2.2.2.2.2.2.2.2.2.2.2.2.2.2.2.2.2.2.2.2
theorem p28_ {a0 a1 a2 a3 a4 a5 a6 a7 a8 a9 a10 a11 a12 a13 a14 a15 a16 a17 a18 a19 a20 a21 a22 a23 a24 a25 a26 a27 a28 r : Prop} (h : a0 ∧ a1 ∧ a2 ∧ a3 ∧ a4 ∧ a5 ∧ a6 ∧ a7 ∧ a8 ∧ a9 ∧ a10 ∧ a11 ∧ a12 ∧ a13 ∧ a14 ∧ a15 ∧ a16 ∧ a17 ∧ a18 ∧ a19 ∧ a20 ∧ a21 ∧ a22 ∧ a23 ∧ a24 ∧ a25 ∧ a26 ∧ a27 ∧ a28 ∧ r) : a28 := h.2.2.2.2.2.2.2.2.2.2.2.2.2.2.2.2.2.2.2.2.2.2.2.2.2.2.2.2.1
theorem q28_ {a0 a1 a2 a3 a4 a5 a6 a7 a8 a9 a10 a11 a12 a13 a14 a15 a16 a17 a18 a19 a20 a21 a22 a23 a24 a25 a26 a27 a28 : Prop} (h : a0 ∧ a1 ∧ a2 ∧ a3 ∧ a4 ∧ a5 ∧ a6 ∧ a7 ∧ a8 ∧ a9 ∧ a10 ∧ a11 ∧ a12 ∧ a13 ∧ a14 ∧ a15 ∧ a16 ∧ a17 ∧ a18 ∧ a19 ∧ a20 ∧ a21 ∧ a22 ∧ a23 ∧ a24 ∧ a25 ∧ a26 ∧ a27 ∧ a28) : a28 := h.2.2.2.2.2.2.2.2.2.2.2.2.2.2.2.2.2.2.2.2.2.2.2.2.2.2.2.2
theorem p29_ {a0 a1 a2 a3 a4 a5 a6 a7 a8 a9 a10 a11 a12 a13 a14 a15 a16 a17 a18 a19 a20 a21 a22 a23 a24 a25 a26 a27 a28 a29 r : Prop} (h : a0 ∧ a1 ∧ a2 ∧ a3 ∧ a4 ∧ a5 ∧ a6 ∧ a7 ∧ a8 ∧ a9 ∧ a10 ∧ a11 ∧ a12 ∧ a13 ∧ a14 ∧ a15 ∧ a16 ∧ a17 ∧ a18 ∧ a19 ∧ a20 ∧ a21 ∧ a22 ∧ a23 ∧ a24 ∧ a25 ∧ a26 ∧ a27 ∧ a28 ∧ a29 ∧ r) : a29 := h.2.2.2.2.2.2.2.2.2.2.2.2.2.2.2.2.2.2.2.2.2.2.2.2.2.2.2.2.2.1
theorem q29_ {a0 a1 a2 a3 a4 a5 a6 a7 a8 a9 a10 a11 a12 a13 a14 a15 a16 a17 a18 a19 a20 a21 a22 a23 a24 a25 a26 a27 a28 a29 : Prop} (h : a0 ∧ a1 ∧ a2 ∧ a3 ∧ a4 ∧ a5 ∧ a6 ∧ a7 ∧ a8 ∧ a9 ∧ a10 ∧ a11 ∧ a12 ∧ a13 ∧ a14 ∧ a15 ∧ a16 ∧ a17 ∧ a18 ∧ a19 ∧ a20 ∧ a21 ∧ a22 ∧ a23 ∧ a24 ∧ a25 ∧ a26 ∧ a27 ∧ a28 ∧ a29) : a29 := h.2.2.2.2.2.2.2.2.2.2.2.2.2.2.2.2.2.2.2.2.2.2.2.2.2.2.2.2.2
theorem p30_ {a0 a1 a2 a3 a4 a5 a6 a7 a8 a9 a10 a11 a12 a13 a14 a15 a16 a17 a18 a19 a20 a21 a22 a23 a24 a25 a26 a27 a28 a29 a30 r : Prop} (h : a0 ∧ a1 ∧ a2 ∧ a3 ∧ a4 ∧ a5 ∧ a6 ∧ a7 ∧ a8 ∧ a9 ∧ a10 ∧ a11 ∧ a12 ∧ a13 ∧ a14 ∧ a15 ∧ a16 ∧ a17 ∧ a18 ∧ a19 ∧ a20 ∧ a21 ∧ a22 ∧ a23 ∧ a24 ∧ a25 ∧ a26 ∧ a27 ∧ a28 ∧ a29 ∧ a30 ∧ r) : a30 := h.2.2.2.2.2.2.2.2.2.2.2.2.2.2.2.2.2.2.2.2.2.2.2.2.2.2.2.2.2.2.1
theorem q30_ {a0 a1 a2 a3 a4 a5 a6 a7 a8 a9 a10 a11 a12 a13 a14 a15 a16 a17 a18 a19 a20 a21 a22 a23 a24 a25 a26 a27 a28 a29 a30 : Prop} (h : a0 ∧ a1 ∧ a2 ∧ a3 ∧ a4 ∧ a5 ∧ a6 ∧ a7 ∧ a8 ∧ a9 ∧ a10 ∧ a11 ∧ a12 ∧ a13 ∧ a14 ∧ a15 ∧ a16 ∧ a17 ∧ a18 ∧ a19 ∧ a20 ∧ a21 ∧ a22 ∧ a23 ∧ a24 ∧ a25 ∧ a26 ∧ a27 ∧ a28 ∧ a29 ∧ a30) : a30 := h.2.2.2.2.2.2.2.2.2.2.2.2.2.2.2.2.2.2.2.2.2.2.2.2.2.2.2.2.2.2
theorem p31_ {a0 a1 a2 a3 a4 a5 a6 a7 a8 a9 a10 a11 a12 a13 a14 a15 a16 a17 a18 a19 a20 a21 a22 a23 a24 a25 a26 a27 a28 a29 a30 a31 r : Prop} (h : a0 ∧ a1 ∧ a2 ∧ a3 ∧ a4 ∧ a5 ∧ a6 ∧ a7 ∧ a8 ∧ a9 ∧ a10 ∧ a11 ∧ a12 ∧ a13 ∧ a14 ∧ a15 ∧ a16 ∧ a17 ∧ a18 ∧ a19 ∧ a20 ∧ a21 ∧ a22 ∧ a23 ∧ a24 ∧ a25 ∧ a26 ∧ a27 ∧ a28 ∧ a29 ∧ a30 ∧ a31 ∧ r) : a31 := h.2.2.2.2.2.2.2.2.2.2.2.2.2.2.2.2.2.2.2.2.2.2.2.2.2.2.2.2.2.2.2.1
theorem q31_ {a0 a1 a2 a3 a4 a5 a6 a7 a8 a9 a10 a11 a12 a13 a14 a15 a16 a17 a18 a19 a20 a21 a22 a23 a24 a25 a26 a27 a28 a29 a30 a31 : Prop} (h : a0 ∧ a1 ∧ a2 ∧ a3 ∧ a4 ∧ a5 ∧ a6 ∧ a7 ∧ a8 ∧ a9 ∧ a10 ∧ a11 ∧ a12 ∧ a13 ∧ a14 ∧ a15 ∧ a16 ∧ a17 ∧ a18 ∧ a19 ∧ a20 ∧ a21 ∧ a22 ∧ a23 ∧ a24 ∧ a25 ∧ a26 ∧ a27 ∧ a28 ∧ a29 ∧ a30 ∧ a31) : a31 := h.2.2.2.2.2.2.2.2.2.2.2.2.2.2.2.2.2.2.2.2.2.2.2.2.2.2.2.2.2.2.2
theorem p32_ {a0 a1 a2 a3 a4 a5 a6 a7 a8 a9 a10 a11 a12 a13 a14 a15 a16 a17 a18 a19 a20 a21 a22 a23 a24 a25 a26 a27 a28 a29 a30 a31 a32 r : Prop} (h : a0 ∧ a1 ∧ a2 ∧ a3 ∧ a4 ∧ a5 ∧ a6 ∧ a7 ∧ a8 ∧ a9 ∧ a10 ∧ a11 ∧ a12 ∧ a13 ∧ a14 ∧ a15 ∧ a16 ∧ a17 ∧ a18 ∧ a19 ∧ a20 ∧ a21 ∧ a22 ∧ a23 ∧ a24 ∧ a25 ∧ a26 ∧ a27 ∧ a28 ∧ a29 ∧ a30 ∧ a31 ∧ a32 ∧ r) : a32 := h.2.2.2.2.2.2.2.2.2.2.2.2.2.2.2.2.2.2.2.2.2.2.2.2.2.2.2.2.2.2.2.2.1
theorem q32_ {a0 a1 a2 a3 a4 a5 a6 a7 a8 a9 a10 a11 a12 a13 a14 a15 a16 a17 a18 a19 a20 a21 a22 a23 a24 a25 a26 a27 a28 a29 a30 a31 a32 : Prop} (h : a0 ∧ a1 ∧ a2 ∧ a3 ∧ a4 ∧ a5 ∧ a6 ∧ a7 ∧ a8 ∧ a9 ∧ a10 ∧ a11 ∧ a12 ∧ a13 ∧ a14 ∧ a15 ∧ a16 ∧ a17 ∧ a18 ∧ a19 ∧ a20 ∧ a21 ∧ a22 ∧ a23 ∧ a24 ∧ a25 ∧ a26 ∧ a27 ∧ a28 ∧ a29 ∧ a30 ∧ a31 ∧ a32) : a32 := h.2.2.2.2.2.2.2.2.2.2.2.2.2.2.2.2.2.2.2.2.2.2.2.2.2.2.2.2.2.2.2.2
theorem p33_ {a0 a1 a2 a3 a4 a5 a6 a7 a8 a9 a10 a11 a12 a13 a14 a15 a16 a17 a18 a19 a20 a21 a22 a23 a24 a25 a26 a27 a28 a29 a30 a31 a32 a33 r : Prop} (h : a0 ∧ a1 ∧ a2 ∧ a3 ∧ a4 ∧ a5 ∧ a6 ∧ a7 ∧ a8 ∧ a9 ∧ a10 ∧ a11 ∧ a12 ∧ a13 ∧ a14 ∧ a15 ∧ a16 ∧ a17 ∧ a18 ∧ a19 ∧ a20 ∧ a21 ∧ a22 ∧ a23 ∧ a24 ∧ a25 ∧ a26 ∧ a27 ∧ a28 ∧ a29 ∧ a30 ∧ a31 ∧ a32 ∧ a33 ∧ r) : a33 := h.2.2.2.2.2.2.2.2.2.2.2.2.2.2.2.2.2.2.2.2.2.2.2.2.2.2.2.2.2.2.2.2.2.1
theorem q33_ {a0 a1 a2 a3 a4 a5 a6 a7 a8 a9 a10 a11 a12 a13 a14 a15 a16 a17 a18 a19 a20 a21 a22 a23 a24 a25 a26 a27 a28 a29 a30 a31 a32 a33 : Prop} (h : a0 ∧ a1 ∧ a2 ∧ a3 ∧ a4 ∧ a5 ∧ a6 ∧ a7 ∧ a8 ∧ a9 ∧ a10 ∧ a11 ∧ a12 ∧ a13 ∧ a14 ∧ a15 ∧ a16 ∧ a17 ∧ a18 ∧ a19 ∧ a20 ∧ a21 ∧ a22 ∧ a23 ∧ a24 ∧ a25 ∧ a26 ∧ a27 ∧ a28 ∧ a29 ∧ a30 ∧ a31 ∧ a32 ∧ a33) : a33 := h.2.2.2.2.2.2.2.2.2.2.2.2.2.2.2.2.2.2.2.2.2.2.2.2.2.2.2.2.2.2.2.2.2
theorem p34_ {a0 a1 a2 a3 a4 a5 a6 a7 a8 a9 a10 a11 a12 a13 a14 a15 a16 a17 a18 a19 a20 a21 a22 a23 a24 a25 a26 a27 a28 a29 a30 a31 a32 a33 a34 r : Prop} (h : a0 ∧ a1 ∧ a2 ∧ a3 ∧ a4 ∧ a5 ∧ a6 ∧ a7 ∧ a8 ∧ a9 ∧ a10 ∧ a11 ∧ a12 ∧ a13 ∧ a14 ∧ a15 ∧ a16 ∧ a17 ∧ a18 ∧ a19 ∧ a20 ∧ a21 ∧ a22 ∧ a23 ∧ a24 ∧ a25 ∧ a26 ∧ a27 ∧ a28 ∧ a29 ∧ a30 ∧ a31 ∧ a32 ∧ a33 ∧ a34 ∧ r) : a34 := h.2.2.2.2.2.2.2.2.2.2.2.2.2.2.2.2.2.2.2.2.2.2.2.2.2.2.2.2.2.2.2.2.2.2.1
theorem q34_ {a0 a1 a2 a3 a4 a5 a6 a7 a8 a9 a10 a11 a12 a13 a14 a15 a16 a17 a18 a19 a20 a21 a22 a23 a24 a25 a26 a27 a28 a29 a30 a31 a32 a33 a34 : Prop} (h : a0 ∧ a1 ∧ a2 ∧ a3 ∧ a4 ∧ a5 ∧ a6 ∧ a7 ∧ a8 ∧ a9 ∧ a10 ∧ a11 ∧ a12 ∧ a13 ∧ a14 ∧ a15 ∧ a16 ∧ a17 ∧ a18 ∧ a19 ∧ a20 ∧ a21 ∧ a22 ∧ a23 ∧ a24 ∧ a25 ∧ a26 ∧ a27 ∧ a28 ∧ a29 ∧ a30 ∧ a31 ∧ a32 ∧ a33 ∧ a34) : a34 := h.2.2.2.2.2.2.2.2.2.2.2.2.2.2.2.2.2.2.2.2.2.2.2.2.2.2.2.2.2.2.2.2.2.2
theorem p35_ {a0 a1 a2 a3 a4 a5 a6 a7 a8 a9 a10 a11 a12 a13 a14 a15 a16 a17 a18 a19 a20 a21 a22 a23 a24 a25 a26 a27 a28 a29 a30 a31 a32 a33 a34 a35 r : Prop} (h : a0 ∧ a1 ∧ a2 ∧ a3 ∧ a4 ∧ a5 ∧ a6 ∧ a7 ∧ a8 ∧ a9 ∧ a10 ∧ a11 ∧ a12 ∧ a13 ∧ a14 ∧ a15 ∧ a16 ∧ a17 ∧ a18 ∧ a19 ∧ a20 ∧ a21 ∧ a22 ∧ a23 ∧ a24 ∧ a25 ∧ a26 ∧ a27 ∧ a28 ∧ a29 ∧ a30 ∧ a31 ∧ a32 ∧ a33 ∧ a34 ∧ a35 ∧ r) : a35 := h.2.2.2.2.2.2.2.2.2.2.2.2.2.2.2.2.2.2.2.2.2.2.2.2.2.2.2.2.2.2.2.2.2.2.2.1
theorem q35_ {a0 a1 a2 a3 a4 a5 a6 a7 a8 a9 a10 a11 a12 a13 a14 a15 a16 a17 a18 a19 a20 a21 a22 a23 a24 a25 a26 a27 a28 a29 a30 a31 a32 a33 a34 a35 : Prop} (h : a0 ∧ a1 ∧ a2 ∧ a3 ∧ a4 ∧ a5 ∧ a6 ∧ a7 ∧ a8 ∧ a9 ∧ a10 ∧ a11 ∧ a12 ∧ a13 ∧ a14 ∧ a15 ∧ a16 ∧ a17 ∧ a18 ∧ a19 ∧ a20 ∧ a21 ∧ a22 ∧ a23 ∧ a24 ∧ a25 ∧ a26 ∧ a27 ∧ a28 ∧ a29 ∧ a30 ∧ a31 ∧ a32 ∧ a33 ∧ a34 ∧ a35) : a35 := h.2.2.2.2.2.2.2.2.2.2.2.2.2.2.2.2.2.2.2.2.2.2.2.2.2.2.2.2.2.2.2.2.2.2.2
theorem p36_ {a0 a1 a2 a3 a4 a5 a6 a7 a8 a9 a10 a11 a12 a13 a14 a15 a16 a17 a18 a19 a20 a21 a22 a23 a24 a25 a26 a27 a28 a29 a30 a31 a32 a33 a34 a35 a36 r : Prop} (h : a0 ∧ a1 ∧ a2 ∧ a3 ∧ a4 ∧ a5 ∧ a6 ∧ a7 ∧ a8 ∧ a9 ∧ a10 ∧ a11 ∧ a12 ∧ a13 ∧ a14 ∧ a15 ∧ a16 ∧ a17 ∧ a18 ∧ a19 ∧ a20 ∧ a21 ∧ a22 ∧ a23 ∧ a24 ∧ a25 ∧ a26 ∧ a27 ∧ a28 ∧ a29 ∧ a30 ∧ a31 ∧ a32 ∧ a33 ∧ a34 ∧ a35 ∧ a36 ∧ r) : a36 := h.2.2.2.2.2.2.2.2.2.2.2.2.2.2.2.2.2.2.2.2.2.2.2.2.2.2.2.2.2.2.2.2.2.2.2.2.1
theorem q36_ {a0 a1 a2 a3 a4 a5 a6 a7 a8 a9 a10 a11 a12 a13 a14 a15 a16 a17 a18 a19 a20 a21 a22 a23 a24 a25 a26 a27 a28 a29 a30 a31 a32 a33 a34 a35 a36 : Prop} (h : a0 ∧ a1 ∧ a2 ∧ a3 ∧ a4 ∧ a5 ∧ a6 ∧ a7 ∧ a8 ∧ a9 ∧ a10 ∧ a11 ∧ a12 ∧ a13 ∧ a14 ∧ a15 ∧ a16 ∧ a17 ∧ a18 ∧ a19 ∧ a20 ∧ a21 ∧ a22 ∧ a23 ∧ a24 ∧ a25 ∧ a26 ∧ a27 ∧ a28 ∧ a29 ∧ a30 ∧ a31 ∧ a32 ∧ a33 ∧ a34 ∧ a35 ∧ a36) : a36 := h.2.2.2.2.2.2.2.2.2.2.2.2.2.2.2.2.2.2.2.2.2.2.2.2.2.2.2.2.2.2.2.2.2.2.2.2
theorem p37_ {a0 a1 a2 a3 a4 a5 a6 a7 a8 a9 a10 a11 a12 a13 a14 a15 a16 a17 a18 a19 a20 a21 a22 a23 a24 a25 a26 a27 a28 a29 a30 a31 a32 a33 a34 a35 a36 a37 r : Prop} (h : a0 ∧ a1 ∧ a2 ∧ a3 ∧ a4 ∧ a5 ∧ a6 ∧ a7 ∧ a8 ∧ a9 ∧ a10 ∧ a11 ∧ a12 ∧ a13 ∧ a14 ∧ a15 ∧ a16 ∧ a17 ∧ a18 ∧ a19 ∧ a20 ∧ a21 ∧ a22 ∧ a23 ∧ a24 ∧ a25 ∧ a26 ∧ a27 ∧ a28 ∧ a29 ∧ a30 ∧ a31 ∧ a32 ∧ a33 ∧ a34 ∧ a35 ∧ a36 ∧ a37 ∧ r) : a37 := h.2.2.2.2.2.2.2.2.2.2.2.2.2.2.2.2.2.2.2.2.2.2.2.2.2.2.2.2.2.2.2.2.2.2.2.2.2.1
theorem q37_ {a0 a1 a2 a3 a4 a5 a6 a7 a8 a9 a10 a11 a12 a13 a14 a15 a16 a17 a18 a19 a20 a21 a22 a23 a24 a25 a26 a27 a28 a29 a30 a31 a32 a33 a34 a35 a36 a37 : Prop} (h : a0 ∧ a1 ∧ a2 ∧ a3 ∧ a4 ∧ a5 ∧ a6 ∧ a7 ∧ a8 ∧ a9 ∧ a10 ∧ a11 ∧ a12 ∧ a13 ∧ a14 ∧ a15 ∧ a16 ∧ a17 ∧ a18 ∧ a19 ∧ a20 ∧ a21 ∧ a22 ∧ a23 ∧ a24 ∧ a25 ∧ a26 ∧ a27 ∧ a28 ∧ a29 ∧ a30 ∧ a31 ∧ a32 ∧ a33 ∧ a34 ∧ a35 ∧ a36 ∧ a37) : a37 := h.2.2.2.2.2.2.2.2.2.2.2.2.2.2.2.2.2.2.2.2.2.2.2.2.2.2.2.2.2.2.2.2.2.2.2.2.2
theorem p38_ {a0 a1 a2 a3 a4 a5 a6 a7 a8 a9 a10 a11 a12 a13 a14 a15 a16 a17 a18 a19 a20 a21 a22 a23 a24 a25 a26 a27 a28 a29 a30 a31 a32 a33 a34 a35 a36 a37 a38 r : Prop} (h : a0 ∧ a1 ∧ a2 ∧ a3 ∧ a4 ∧ a5 ∧ a6 ∧ a7 ∧ a8 ∧ a9 ∧ a10 ∧ a11 ∧ a12 ∧ a13 ∧ a14 ∧ a15 ∧ a16 ∧ a17 ∧ a18 ∧ a19 ∧ a20 ∧ a21 ∧ a22 ∧ a23 ∧ a24 ∧ a25 ∧ a26 ∧ a27 ∧ a28 ∧ a29 ∧ a30 ∧ a31 ∧ a32 ∧ a33 ∧ a34 ∧ a35 ∧ a36 ∧ a37 ∧ a38 ∧ r) : a38 := h.2.2.2.2.2.2.2.2.2.2.2.2.2.2.2.2.2.2.2.2.2.2.2.2.2.2.2.2.2.2.2.2.2.2.2.2.2.2.1
theorem q38_ {a0 a1 a2 a3 a4 a5 a6 a7 a8 a9 a10 a11 a12 a13 a14 a15 a16 a17 a18 a19 a20 a21 a22 a23 a24 a25 a26 a27 a28 a29 a30 a31 a32 a33 a34 a35 a36 a37 a38 : Prop} (h : a0 ∧ a1 ∧ a2 ∧ a3 ∧ a4 ∧ a5 ∧ a6 ∧ a7 ∧ a8 ∧ a9 ∧ a10 ∧ a11 ∧ a12 ∧ a13 ∧ a14 ∧ a15 ∧ a16 ∧ a17 ∧ a18 ∧ a19 ∧ a20 ∧ a21 ∧ a22 ∧ a23 ∧ a24 ∧ a25 ∧ a26 ∧ a27 ∧ a28 ∧ a29 ∧ a30 ∧ a31 ∧ a32 ∧ a33 ∧ a34 ∧ a35 ∧ a36 ∧ a37 ∧ a38) : a38 := h.2.2.2.2.2.2.2.2.2.2.2.2.2.2.2.2.2.2.2.2.2.2.2.2.2.2.2.2.2.2.2.2.2.2.2.2.2.2
theorem p39_ {a0 a1 a2 a3 a4 a5 a6 a7 a8 a9 a10 a11 a12 a13 a14 a15 a16 a17 a18 a19 a20 a21 a22 a23 a24 a25 a26 a27 a28 a29 a30 a31 a32 a33 a34 a35 a36 a37 a38 a39 r : Prop} (h : a0 ∧ a1 ∧ a2 ∧ a3 ∧ a4 ∧ a5 ∧ a6 ∧ a7 ∧ a8 ∧ a9 ∧ a10 ∧ a11 ∧ a12 ∧ a13 ∧ a14 ∧ a15 ∧ a16 ∧ a17 ∧ a18 ∧ a19 ∧ a20 ∧ a21 ∧ a22 ∧ a23 ∧ a24 ∧ a25 ∧ a26 ∧ a27 ∧ a28 ∧ a29 ∧ a30 ∧ a31 ∧ a32 ∧ a33 ∧ a34 ∧ a35 ∧ a36 ∧ a37 ∧ a38 ∧ a39 ∧ r) : a39 := h.2.2.2.2.2.2.2.2.2.2.2.2.2.2.2.2.2.2.2.2.2.2.2.2.2.2.2.2.2.2.2.2.2.2.2.2.2.2.2.1
theorem q39_ {a0 a1 a2 a3 a4 a5 a6 a7 a8 a9 a10 a11 a12 a13 a14 a15 a16 a17 a18 a19 a20 a21 a22 a23 a24 a25 a26 a27 a28 a29 a30 a31 a32 a33 a34 a35 a36 a37 a38 a39 : Prop} (h : a0 ∧ a1 ∧ a2 ∧ a3 ∧ a4 ∧ a5 ∧ a6 ∧ a7 ∧ a8 ∧ a9 ∧ a10 ∧ a11 ∧ a12 ∧ a13 ∧ a14 ∧ a15 ∧ a16 ∧ a17 ∧ a18 ∧ a19 ∧ a20 ∧ a21 ∧ a22 ∧ a23 ∧ a24 ∧ a25 ∧ a26 ∧ a27 ∧ a28 ∧ a29 ∧ a30 ∧ a31 ∧ a32 ∧ a33 ∧ a34 ∧ a35 ∧ a36 ∧ a37 ∧ a38 ∧ a39) : a39 := h.2.2.2.2.2.2.2.2.2.2.2.2.2.2.2.2.2.2.2.2.2.2.2.2.2.2.2.2.2.2.2.2.2.2.2.2.2.2.2
theorem p40_ {a0 a1 a2 a3 a4 a5 a6 a7 a8 a9 a10 a11 a12 a13 a14 a15 a16 a17 a18 a19 a20 a21 a22 a23 a24 a25 a26 a27 a28 a29 a30 a31 a32 a33 a34 a35 a36 a37 a38 a39 a40 r : Prop} (h : a0 ∧ a1 ∧ a2 ∧ a3 ∧ a4 ∧ a5 ∧ a6 ∧ a7 ∧ a8 ∧ a9 ∧ a10 ∧ a11 ∧ a12 ∧ a13 ∧ a14 ∧ a15 ∧ a16 ∧ a17 ∧ a18 ∧ a19 ∧ a20 ∧ a21 ∧ a22 ∧ a23 ∧ a24 ∧ a25 ∧ a26 ∧ a27 ∧ a28 ∧ a29 ∧ a30 ∧ a31 ∧ a32 ∧ a33 ∧ a34 ∧ a35 ∧ a36 ∧ a37 ∧ a38 ∧ a39 ∧ a40 ∧ r) : a40 := h.2.2.2.2.2.2.2.2.2.2.2.2.2.2.2.2.2.2.2.2.2.2.2.2.2.2.2.2.2.2.2.2.2.2.2.2.2.2.2.2.1
theorem q40_ {a0 a1 a2 a3 a4 a5 a6 a7 a8 a9 a10 a11 a12 a13 a14 a15 a16 a17 a18 a19 a20 a21 a22 a23 a24 a25 a26 a27 a28 a29 a30 a31 a32 a33 a34 a35 a36 a37 a38 a39 a40 : Prop} (h : a0 ∧ a1 ∧ a2 ∧ a3 ∧ a4 ∧ a5 ∧ a6 ∧ a7 ∧ a8 ∧ a9 ∧ a10 ∧ a11 ∧ a12 ∧ a13 ∧ a14 ∧ a15 ∧ a16 ∧ a17 ∧ a18 ∧ a19 ∧ a20 ∧ a21 ∧ a22 ∧ a23 ∧ a24 ∧ a25 ∧ a26 ∧ a27 ∧ a28 ∧ a29 ∧ a30 ∧ a31 ∧ a32 ∧ a33 ∧ a34 ∧ a35 ∧ a36 ∧ a37 ∧ a38 ∧ a39 ∧ a40) : a40 := h.2.2.2.2.2.2.2.2.2.2.2.2.2.2.2.2.2.2.2.2.2.2.2.2.2.2.2.2.2.2.2.2.2.2.2.2.2.2.2.2
theorem p41_ {a0 a1 a2 a3 a4 a5 a6 a7 a8 a9 a10 a11 a12 a13 a14 a15 a16 a17 a18 a19 a20 a21 a22 a23 a24 a25 a26 a27 a28 a29 a30 a31 a32 a33 a34 a35 a36 a37 a38 a39 a40 a41 r : Prop} (h : a0 ∧ a1 ∧ a2 ∧ a3 ∧ a4 ∧ a5 ∧ a6 ∧ a7 ∧ a8 ∧ a9 ∧ a10 ∧ a11 ∧ a12 ∧ a13 ∧ a14 ∧ a15 ∧ a16 ∧ a17 ∧ a18 ∧ a19 ∧ a20 ∧ a21 ∧ a22 ∧ a23 ∧ a24 ∧ a25 ∧ a26 ∧ a27 ∧ a28 ∧ a29 ∧ a30 ∧ a31 ∧ a32 ∧ a33 ∧ a34 ∧ a35 ∧ a36 ∧ a37 ∧ a38 ∧ a39 ∧ a40 ∧ a41 ∧ r) : a41 := h.2.2.2.2.2.2.2.2.2.2.2.2.2.2.2.2.2.2.2.2.2.2.2.2.2.2.2.2.2.2.2.2.2.2.2.2.2.2.2.2.2.1
theorem q41_ {a0 a1 a2 a3 a4 a5 a6 a7 a8 a9 a10 a11 a12 a13 a14 a15 a16 a17 a18 a19 a20 a21 a22 a23 a24 a25 a26 a27 a28 a29 a30 a31 a32 a33 a34 a35 a36 a37 a38 a39 a40 a41 : Prop} (h : a0 ∧ a1 ∧ a2 ∧ a3 ∧ a4 ∧ a5 ∧ a6 ∧ a7 ∧ a8 ∧ a9 ∧ a10 ∧ a11 ∧ a12 ∧ a13 ∧ a14 ∧ a15 ∧ a16 ∧ a17 ∧ a18 ∧ a19 ∧ a20 ∧ a21 ∧ a22 ∧ a23 ∧ a24 ∧ a25 ∧ a26 ∧ a27 ∧ a28 ∧ a29 ∧ a30 ∧ a31 ∧ a32 ∧ a33 ∧ a34 ∧ a35 ∧ a36 ∧ a37 ∧ a38 ∧ a39 ∧ a40 ∧ a41) : a41 := h.2.2.2.2.2.2.2.2.2.2.2.2.2.2.2.2.2.2.2.2.2.2.2.2.2.2.2.2.2.2.2.2.2.2.2.2.2.2.2.2.2
theorem p42_ {a0 a1 a2 a3 a4 a5 a6 a7 a8 a9 a10 a11 a12 a13 a14 a15 a16 a17 a18 a19 a20 a21 a22 a23 a24 a25 a26 a27 a28 a29 a30 a31 a32 a33 a34 a35 a36 a37 a38 a39 a40 a41 a42 r : Prop} (h : a0 ∧ a1 ∧ a2 ∧ a3 ∧ a4 ∧ a5 ∧ a6 ∧ a7 ∧ a8 ∧ a9 ∧ a10 ∧ a11 ∧ a12 ∧ a13 ∧ a14 ∧ a15 ∧ a16 ∧ a17 ∧ a18 ∧ a19 ∧ a20 ∧ a21 ∧ a22 ∧ a23 ∧ a24 ∧ a25 ∧ a26 ∧ a27 ∧ a28 ∧ a29 ∧ a30 ∧ a31 ∧ a32 ∧ a33 ∧ a34 ∧ a35 ∧ a36 ∧ a37 ∧ a38 ∧ a39 ∧ a40 ∧ a41 ∧ a42 ∧ r) : a42 := h.2.2.2.2.2.2.2.2.2.2.2.2.2.2.2.2.2.2.2.2.2.2.2.2.2.2.2.2.2.2.2.2.2.2.2.2.2.2.2.2.2.2.1
theorem q42_ {a0 a1 a2 a3 a4 a5 a6 a7 a8 a9 a10 a11 a12 a13 a14 a15 a16 a17 a18 a19 a20 a21 a22 a23 a24 a25 a26 a27 a28 a29 a30 a31 a32 a33 a34 a35 a36 a37 a38 a39 a40 a41 a42 : Prop} (h : a0 ∧ a1 ∧ a2 ∧ a3 ∧ a4 ∧ a5 ∧ a6 ∧ a7 ∧ a8 ∧ a9 ∧ a10 ∧ a11 ∧ a12 ∧ a13 ∧ a14 ∧ a15 ∧ a16 ∧ a17 ∧ a18 ∧ a19 ∧ a20 ∧ a21 ∧ a22 ∧ a23 ∧ a24 ∧ a25 ∧ a26 ∧ a27 ∧ a28 ∧ a29 ∧ a30 ∧ a31 ∧ a32 ∧ a33 ∧ a34 ∧ a35 ∧ a36 ∧ a37 ∧ a38 ∧ a39 ∧ a40 ∧ a41 ∧ a42) : a42 := h.2.2.2.2.2.2.2.2.2.2.2.2.2.2.2.2.2.2.2.2.2.2.2.2.2.2.2.2.2.2.2.2.2.2.2.2.2.2.2.2.2.2
theorem p43_ {a0 a1 a2 a3 a4 a5 a6 a7 a8 a9 a10 a11 a12 a13 a14 a15 a16 a17 a18 a19 a20 a21 a22 a23 a24 a25 a26 a27 a28 a29 a30 a31 a32 a33 a34 a35 a36 a37 a38 a39 a40 a41 a42 a43 r : Prop} (h : a0 ∧ a1 ∧ a2 ∧ a3 ∧ a4 ∧ a5 ∧ a6 ∧ a7 ∧ a8 ∧ a9 ∧ a10 ∧ a11 ∧ a12 ∧ a13 ∧ a14 ∧ a15 ∧ a16 ∧ a17 ∧ a18 ∧ a19 ∧ a20 ∧ a21 ∧ a22 ∧ a23 ∧ a24 ∧ a25 ∧ a26 ∧ a27 ∧ a28 ∧ a29 ∧ a30 ∧ a31 ∧ a32 ∧ a33 ∧ a34 ∧ a35 ∧ a36 ∧ a37 ∧ a38 ∧ a39 ∧ a40 ∧ a41 ∧ a42 ∧ a43 ∧ r) : a43 := h.2.2.2.2.2.2.2.2.2.2.2.2.2.2.2.2.2.2.2.2.2.2.2.2.2.2.2.2.2.2.2.2.2.2.2.2.2.2.2.2.2.2.2.1
theorem q43_ {a0 a1 a2 a3 a4 a5 a6 a7 a8 a9 a10 a11 a12 a13 a14 a15 a16 a17 a18 a19 a20 a21 a22 a23 a24 a25 a26 a27 a28 a29 a30 a31 a32 a33 a34 a35 a36 a37 a38 a39 a40 a41 a42 a43 : Prop} (h : a0 ∧ a1 ∧ a2 ∧ a3 ∧ a4 ∧ a5 ∧ a6 ∧ a7 ∧ a8 ∧ a9 ∧ a10 ∧ a11 ∧ a12 ∧ a13 ∧ a14 ∧ a15 ∧ a16 ∧ a17 ∧ a18 ∧ a19 ∧ a20 ∧ a21 ∧ a22 ∧ a23 ∧ a24 ∧ a25 ∧ a26 ∧ a27 ∧ a28 ∧ a29 ∧ a30 ∧ a31 ∧ a32 ∧ a33 ∧ a34 ∧ a35 ∧ a36 ∧ a37 ∧ a38 ∧ a39 ∧ a40 ∧ a41 ∧ a42 ∧ a43) : a43 := h.2.2.2.2.2.2.2.2.2.2.2.2.2.2.2.2.2.2.2.2.2.2.2.2.2.2.2.2.2.2.2.2.2.2.2.2.2.2.2.2.2.2.2
theorem p44_ {a0 a1 a2 a3 a4 a5 a6 a7 a8 a9 a10 a11 a12 a13 a14 a15 a16 a17 a18 a19 a20 a21 a22 a23 a24 a25 a26 a27 a28 a29 a30 a31 a32 a33 a34 a35 a36 a37 a38 a39 a40 a41 a42 a43 a44 r : Prop} (h : a0 ∧ a1 ∧ a2 ∧ a3 ∧ a4 ∧ a5 ∧ a6 ∧ a7 ∧ a8 ∧ a9 ∧ a10 ∧ a11 ∧ a12 ∧ a13 ∧ a14 ∧ a15 ∧ a16 ∧ a17 ∧ a18 ∧ a19 ∧ a20 ∧ a21 ∧ a22 ∧ a23 ∧ a24 ∧ a25 ∧ a26 ∧ a27 ∧ a28 ∧ a29 ∧ a30 ∧ a31 ∧ a32 ∧ a33 ∧ a34 ∧ a35 ∧ a36 ∧ a37 ∧ a38 ∧ a39 ∧ a40 ∧ a41 ∧ a42 ∧ a43 ∧ a44 ∧ r) : a44 := h.2.2.2.2.2.2.2.2.2.2.2.2.2.2.2.2.2.2.2.2.2.2.2.2.2.2.2.2.2.2.2.2.2.2.2.2.2.2.2.2.2.2.2.2.1
theorem q44_ {a0 a1 a2 a3 a4 a5 a6 a7 a8 a9 a10 a11 a12 a13 a14 a15 a16 a17 a18 a19 a20 a21 a22 a23 a24 a25 a26 a27 a28 a29 a30 a31 a32 a33 a34 a35 a36 a37 a38 a39 a40 a41 a42 a43 a44 : Prop} (h : a0 ∧ a1 ∧ a2 ∧ a3 ∧ a4 ∧ a5 ∧ a6 ∧ a7 ∧ a8 ∧ a9 ∧ a10 ∧ a11 ∧ a12 ∧ a13 ∧ a14 ∧ a15 ∧ a16 ∧ a17 ∧ a18 ∧ a19 ∧ a20 ∧ a21 ∧ a22 ∧ a23 ∧ a24 ∧ a25 ∧ a26 ∧ a27 ∧ a28 ∧ a29 ∧ a30 ∧ a31 ∧ a32 ∧ a33 ∧ a34 ∧ a35 ∧ a36 ∧ a37 ∧ a38 ∧ a39 ∧ a40 ∧ a41 ∧ a42 ∧ a43 ∧ a44) : a44 := h.2.2.2.2.2.2.2.2.2.2.2.2.2.2.2.2.2.2.2.2.2.2.2.2.2.2.2.2.2.2.2.2.2.2.2.2.2.2.2.2.2.2.2.2
theorem p45_ {a0 a1 a2 a3 a4 a5 a6 a7 a8 a9 a10 a11 a12 a13 a14 a15 a16 a17 a18 a19 a20 a21 a22 a23 a24 a25 a26 a27 a28 a29 a30 a31 a32 a33 a34 a35 a36 a37 a38 a39 a40 a41 a42 a43 a44 a45 r : Prop} (h : a0 ∧ a1 ∧ a2 ∧ a3 ∧ a4 ∧ a5 ∧ a6 ∧ a7 ∧ a8 ∧ a9 ∧ a10 ∧ a11 ∧ a12 ∧ a13 ∧ a14 ∧ a15 ∧ a16 ∧ a17 ∧ a18 ∧ a19 ∧ a20 ∧ a21 ∧ a22 ∧ a23 ∧ a24 ∧ a25 ∧ a26 ∧ a27 ∧ a28 ∧ a29 ∧ a30 ∧ a31 ∧ a32 ∧ a33 ∧ a34 ∧ a35 ∧ a36 ∧ a37 ∧ a38 ∧ a39 ∧ a40 ∧ a41 ∧ a42 ∧ a43 ∧ a44 ∧ a45 ∧ r) : a45 := h.2.2.2.2.2.2.2.2.2.2.2.2.2.2.2.2.2.2.2.2.2.2.2.2.2.2.2.2.2.2.2.2.2.2.2.2.2.2.2.2.2.2.2.2.2.1
theorem q45_ {a0 a1 a2 a3 a4 a5 a6 a7 a8 a9 a10 a11 a12 a13 a14 a15 a16 a17 a18 a19 a20 a21 a22 a23 a24 a25 a26 a27 a28 a29 a30 a31 a32 a33 a34 a35 a36 a37 a38 a39 a40 a41 a42 a43 a44 a45 : Prop} (h : a0 ∧ a1 ∧ a2 ∧ a3 ∧ a4 ∧ a5 ∧ a6 ∧ a7 ∧ a8 ∧ a9 ∧ a10 ∧ a11 ∧ a12 ∧ a13 ∧ a14 ∧ a15 ∧ a16 ∧ a17 ∧ a18 ∧ a19 ∧ a20 ∧ a21 ∧ a22 ∧ a23 ∧ a24 ∧ a25 ∧ a26 ∧ a27 ∧ a28 ∧ a29 ∧ a30 ∧ a31 ∧ a32 ∧ a33 ∧ a34 ∧ a35 ∧ a36 ∧ a37 ∧ a38 ∧ a39 ∧ a40 ∧ a41 ∧ a42 ∧ a43 ∧ a44 ∧ a45) : a45 := h.2.2.2.2.2.2.2.2.2.2.2.2.2.2.2.2.2.2.2.2.2.2.2.2.2.2.2.2.2.2.2.2.2.2.2.2.2.2.2.2.2.2.2.2.2
theorem p46_ {a0 a1 a2 a3 a4 a5 a6 a7 a8 a9 a10 a11 a12 a13 a14 a15 a16 a17 a18 a19 a20 a21 a22 a23 a24 a25 a26 a27 a28 a29 a30 a31 a32 a33 a34 a35 a36 a37 a38 a39 a40 a41 a42 a43 a44 a45 a46 r : Prop} (h : a0 ∧ a1 ∧ a2 ∧ a3 ∧ a4 ∧ a5 ∧ a6 ∧ a7 ∧ a8 ∧ a9 ∧ a10 ∧ a11 ∧ a12 ∧ a13 ∧ a14 ∧ a15 ∧ a16 ∧ a17 ∧ a18 ∧ a19 ∧ a20 ∧ a21 ∧ a22 ∧ a23 ∧ a24 ∧ a25 ∧ a26 ∧ a27 ∧ a28 ∧ a29 ∧ a30 ∧ a31 ∧ a32 ∧ a33 ∧ a34 ∧ a35 ∧ a36 ∧ a37 ∧ a38 ∧ a39 ∧ a40 ∧ a41 ∧ a42 ∧ a43 ∧ a44 ∧ a45 ∧ a46 ∧ r) : a46 := h.2.2.2.2.2.2.2.2.2.2.2.2.2.2.2.2.2.2.2.2.2.2.2.2.2.2.2.2.2.2.2.2.2.2.2.2.2.2.2.2.2.2.2.2.2.2.1
theorem q46_ {a0 a1 a2 a3 a4 a5 a6 a7 a8 a9 a10 a11 a12 a13 a14 a15 a16 a17 a18 a19 a20 a21 a22 a23 a24 a25 a26 a27 a28 a29 a30 a31 a32 a33 a34 a35 a36 a37 a38 a39 a40 a41 a42 a43 a44 a45 a46 : Prop} (h : a0 ∧ a1 ∧ a2 ∧ a3 ∧ a4 ∧ a5 ∧ a6 ∧ a7 ∧ a8 ∧ a9 ∧ a10 ∧ a11 ∧ a12 ∧ a13 ∧ a14 ∧ a15 ∧ a16 ∧ a17 ∧ a18 ∧ a19 ∧ a20 ∧ a21 ∧ a22 ∧ a23 ∧ a24 ∧ a25 ∧ a26 ∧ a27 ∧ a28 ∧ a29 ∧ a30 ∧ a31 ∧ a32 ∧ a33 ∧ a34 ∧ a35 ∧ a36 ∧ a37 ∧ a38 ∧ a39 ∧ a40 ∧ a41 ∧ a42 ∧ a43 ∧ a44 ∧ a45 ∧ a46) : a46 := h.2.2.2.2.2.2.2.2.2.2.2.2.2.2.2.2.2.2.2.2.2.2.2.2.2.2.2.2.2.2.2.2.2.2.2.2.2.2.2.2.2.2.2.2.2.2
theorem p47_ {a0 a1 a2 a3 a4 a5 a6 a7 a8 a9 a10 a11 a12 a13 a14 a15 a16 a17 a18 a19 a20 a21 a22 a23 a24 a25 a26 a27 a28 a29 a30 a31 a32 a33 a34 a35 a36 a37 a38 a39 a40 a41 a42 a43 a44 a45 a46 a47 r : Prop} (h : a0 ∧ a1 ∧ a2 ∧ a3 ∧ a4 ∧ a5 ∧ a6 ∧ a7 ∧ a8 ∧ a9 ∧ a10 ∧ a11 ∧ a12 ∧ a13 ∧ a14 ∧ a15 ∧ a16 ∧ a17 ∧ a18 ∧ a19 ∧ a20 ∧ a21 ∧ a22 ∧ a23 ∧ a24 ∧ a25 ∧ a26 ∧ a27 ∧ a28 ∧ a29 ∧ a30 ∧ a31 ∧ a32 ∧ a33 ∧ a34 ∧ a35 ∧ a36 ∧ a37 ∧ a38 ∧ a39 ∧ a40 ∧ a41 ∧ a42 ∧ a43 ∧ a44 ∧ a45 ∧ a46 ∧ a47 ∧ r) : a47 := h.2.2.2.2.2.2.2.2.2.2.2.2.2.2.2.2.2.2.2.2.2.2.2.2.2.2.2.2.2.2.2.2.2.2.2.2.2.2.2.2.2.2.2.2.2.2.2.1
theorem q47_ {a0 a1 a2 a3 a4 a5 a6 a7 a8 a9 a10 a11 a12 a13 a14 a15 a16 a17 a18 a19 a20 a21 a22 a23 a24 a25 a26 a27 a28 a29 a30 a31 a32 a33 a34 a35 a36 a37 a38 a39 a40 a41 a42 a43 a44 a45 a46 a47 : Prop} (h : a0 ∧ a1 ∧ a2 ∧ a3 ∧ a4 ∧ a5 ∧ a6 ∧ a7 ∧ a8 ∧ a9 ∧ a10 ∧ a11 ∧ a12 ∧ a13 ∧ a14 ∧ a15 ∧ a16 ∧ a17 ∧ a18 ∧ a19 ∧ a20 ∧ a21 ∧ a22 ∧ a23 ∧ a24 ∧ a25 ∧ a26 ∧ a27 ∧ a28 ∧ a29 ∧ a30 ∧ a31 ∧ a32 ∧ a33 ∧ a34 ∧ a35 ∧ a36 ∧ a37 ∧ a38 ∧ a39 ∧ a40 ∧ a41 ∧ a42 ∧ a43 ∧ a44 ∧ a45 ∧ a46 ∧ a47) : a47 := h.2.2.2.2.2.2.2.2.2.2.2.2.2.2.2.2.2.2.2.2.2.2.2.2.2.2.2.2.2.2.2.2.2.2.2.2.2.2.2.2.2.2.2.2.2.2.2
theorem p48_ {a0 a1 a2 a3 a4 a5 a6 a7 a8 a9 a10 a11 a12 a13 a14 a15 a16 a17 a18 a19 a20 a21 a22 a23 a24 a25 a26 a27 a28 a29 a30 a31 a32 a33 a34 a35 a36 a37 a38 a39 a40 a41 a42 a43 a44 a45 a46 a47 a48 r : Prop} (h : a0 ∧ a1 ∧ a2 ∧ a3 ∧ a4 ∧ a5 ∧ a6 ∧ a7 ∧ a8 ∧ a9 ∧ a10 ∧ a11 ∧ a12 ∧ a13 ∧ a14 ∧ a15 ∧ a16 ∧ a17 ∧ a18 ∧ a19 ∧ a20 ∧ a21 ∧ a22 ∧ a23 ∧ a24 ∧ a25 ∧ a26 ∧ a27 ∧ a28 ∧ a29 ∧ a30 ∧ a31 ∧ a32 ∧ a33 ∧ a34 ∧ a35 ∧ a36 ∧ a37 ∧ a38 ∧ a39 ∧ a40 ∧ a41 ∧ a42 ∧ a43 ∧ a44 ∧ a45 ∧ a46 ∧ a47 ∧ a48 ∧ r) : a48 := h.2.2.2.2.2.2.2.2.2.2.2.2.2.2.2.2.2.2.2.2.2.2.2.2.2.2.2.2.2.2.2.2.2.2.2.2.2.2.2.2.2.2.2.2.2.2.2.2.1
theorem q48_ {a0 a1 a2 a3 a4 a5 a6 a7 a8 a9 a10 a11 a12 a13 a14 a15 a16 a17 a18 a19 a20 a21 a22 a23 a24 a25 a26 a27 a28 a29 a30 a31 a32 a33 a34 a35 a36 a37 a38 a39 a40 a41 a42 a43 a44 a45 a46 a47 a48 : Prop} (h : a0 ∧ a1 ∧ a2 ∧ a3 ∧ a4 ∧ a5 ∧ a6 ∧ a7 ∧ a8 ∧ a9 ∧ a10 ∧ a11 ∧ a12 ∧ a13 ∧ a14 ∧ a15 ∧ a16 ∧ a17 ∧ a18 ∧ a19 ∧ a20 ∧ a21 ∧ a22 ∧ a23 ∧ a24 ∧ a25 ∧ a26 ∧ a27 ∧ a28 ∧ a29 ∧ a30 ∧ a31 ∧ a32 ∧ a33 ∧ a34 ∧ a35 ∧ a36 ∧ a37 ∧ a38 ∧ a39 ∧ a40 ∧ a41 ∧ a42 ∧ a43 ∧ a44 ∧ a45 ∧ a46 ∧ a47 ∧ a48) : a48 := h.2.2.2.2.2.2.2.2.2.2.2.2.2.2.2.2.2.2.2.2.2.2.2.2.2.2.2.2.2.2.2.2.2.2.2.2.2.2.2.2.2.2.2.2.2.2.2.2
theorem p49_ {a0 a1 a2 a3 a4 a5 a6 a7 a8 a9 a10 a11 a12 a13 a14 a15 a16 a17 a18 a19 a20 a21 a22 a23 a24 a25 a26 a27 a28 a29 a30 a31 a32 a33 a34 a35 a36 a37 a38 a39 a40 a41 a42 a43 a44 a45 a46 a47 a48 a49 r : Prop} (h : a0 ∧ a1 ∧ a2 ∧ a3 ∧ a4 ∧ a5 ∧ a6 ∧ a7 ∧ a8 ∧ a9 ∧ a10 ∧ a11 ∧ a12 ∧ a13 ∧ a14 ∧ a15 ∧ a16 ∧ a17 ∧ a18 ∧ a19 ∧ a20 ∧ a21 ∧ a22 ∧ a23 ∧ a24 ∧ a25 ∧ a26 ∧ a27 ∧ a28 ∧ a29 ∧ a30 ∧ a31 ∧ a32 ∧ a33 ∧ a34 ∧ a35 ∧ a36 ∧ a37 ∧ a38 ∧ a39 ∧ a40 ∧ a41 ∧ a42 ∧ a43 ∧ a44 ∧ a45 ∧ a46 ∧ a47 ∧ a48 ∧ a49 ∧ r) : a49 := h.2.2.2.2.2.2.2.2.2.2.2.2.2.2.2.2.2.2.2.2.2.2.2.2.2.2.2.2.2.2.2.2.2.2.2.2.2.2.2.2.2.2.2.2.2.2.2.2.2.1
theorem q49_ {a0 a1 a2 a3 a4 a5 a6 a7 a8 a9 a10 a11 a12 a13 a14 a15 a16 a17 a18 a19 a20 a21 a22 a23 a24 a25 a26 a27 a28 a29 a30 a31 a32 a33 a34 a35 a36 a37 a38 a39 a40 a41 a42 a43 a44 a45 a46 a47 a48 a49 : Prop} (h : a0 ∧ a1 ∧ a2 ∧ a3 ∧ a4 ∧ a5 ∧ a6 ∧ a7 ∧ a8 ∧ a9 ∧ a10 ∧ a11 ∧ a12 ∧ a13 ∧ a14 ∧ a15 ∧ a16 ∧ a17 ∧ a18 ∧ a19 ∧ a20 ∧ a21 ∧ a22 ∧ a23 ∧ a24 ∧ a25 ∧ a26 ∧ a27 ∧ a28 ∧ a29 ∧ a30 ∧ a31 ∧ a32 ∧ a33 ∧ a34 ∧ a35 ∧ a36 ∧ a37 ∧ a38 ∧ a39 ∧ a40 ∧ a41 ∧ a42 ∧ a43 ∧ a44 ∧ a45 ∧ a46 ∧ a47 ∧ a48 ∧ a49) : a49 := h.2.2.2.2.2.2.2.2.2.2.2.2.2.2.2.2.2.2.2.2.2.2.2.2.2.2.2.2.2.2.2.2.2.2.2.2.2.2.2.2.2.2.2.2.2.2.2.2.2
theorem p50_ {a0 a1 a2 a3 a4 a5 a6 a7 a8 a9 a10 a11 a12 a13 a14 a15 a16 a17 a18 a19 a20 a21 a22 a23 a24 a25 a26 a27 a28 a29 a30 a31 a32 a33 a34 a35 a36 a37 a38 a39 a40 a41 a42 a43 a44 a45 a46 a47 a48 a49 a50 r : Prop} (h : a0 ∧ a1 ∧ a2 ∧ a3 ∧ a4 ∧ a5 ∧ a6 ∧ a7 ∧ a8 ∧ a9 ∧ a10 ∧ a11 ∧ a12 ∧ a13 ∧ a14 ∧ a15 ∧ a16 ∧ a17 ∧ a18 ∧ a19 ∧ a20 ∧ a21 ∧ a22 ∧ a23 ∧ a24 ∧ a25 ∧ a26 ∧ a27 ∧ a28 ∧ a29 ∧ a30 ∧ a31 ∧ a32 ∧ a33 ∧ a34 ∧ a35 ∧ a36 ∧ a37 ∧ a38 ∧ a39 ∧ a40 ∧ a41 ∧ a42 ∧ a43 ∧ a44 ∧ a45 ∧ a46 ∧ a47 ∧ a48 ∧ a49 ∧ a50 ∧ r) : a50 := h.2.2.2.2.2.2.2.2.2.2.2.2.2.2.2.2.2.2.2.2.2.2.2.2.2.2.2.2.2.2.2.2.2.2.2.2.2.2.2.2.2.2.2.2.2.2.2.2.2.2.1
theorem q50_ {a0 a1 a2 a3 a4 a5 a6 a7 a8 a9 a10 a11 a12 a13 a14 a15 a16 a17 a18 a19 a20 a21 a22 a23 a24 a25 a26 a27 a28 a29 a30 a31 a32 a33 a34 a35 a36 a37 a38 a39 a40 a41 a42 a43 a44 a45 a46 a47 a48 a49 a50 : Prop} (h : a0 ∧ a1 ∧ a2 ∧ a3 ∧ a4 ∧ a5 ∧ a6 ∧ a7 ∧ a8 ∧ a9 ∧ a10 ∧ a11 ∧ a12 ∧ a13 ∧ a14 ∧ a15 ∧ a16 ∧ a17 ∧ a18 ∧ a19 ∧ a20 ∧ a21 ∧ a22 ∧ a23 ∧ a24 ∧ a25 ∧ a26 ∧ a27 ∧ a28 ∧ a29 ∧ a30 ∧ a31 ∧ a32 ∧ a33 ∧ a34 ∧ a35 ∧ a36 ∧ a37 ∧ a38 ∧ a39 ∧ a40 ∧ a41 ∧ a42 ∧ a43 ∧ a44 ∧ a45 ∧ a46 ∧ a47 ∧ a48 ∧ a49 ∧ a50) : a50 := h.2.2.2.2.2.2.2.2.2.2.2.2.2.2.2.2.2.2.2.2.2.2.2.2.2.2.2.2.2.2.2.2.2.2.2.2.2.2.2.2.2.2.2.2.2.2.2.2.2.2
theorem p51_ {a0 a1 a2 a3 a4 a5 a6 a7 a8 a9 a10 a11 a12 a13 a14 a15 a16 a17 a18 a19 a20 a21 a22 a23 a24 a25 a26 a27 a28 a29 a30 a31 a32 a33 a34 a35 a36 a37 a38 a39 a40 a41 a42 a43 a44 a45 a46 a47 a48 a49 a50 a51 r : Prop} (h : a0 ∧ a1 ∧ a2 ∧ a3 ∧ a4 ∧ a5 ∧ a6 ∧ a7 ∧ a8 ∧ a9 ∧ a10 ∧ a11 ∧ a12 ∧ a13 ∧ a14 ∧ a15 ∧ a16 ∧ a17 ∧ a18 ∧ a19 ∧ a20 ∧ a21 ∧ a22 ∧ a23 ∧ a24 ∧ a25 ∧ a26 ∧ a27 ∧ a28 ∧ a29 ∧ a30 ∧ a31 ∧ a32 ∧ a33 ∧ a34 ∧ a35 ∧ a36 ∧ a37 ∧ a38 ∧ a39 ∧ a40 ∧ a41 ∧ a42 ∧ a43 ∧ a44 ∧ a45 ∧ a46 ∧ a47 ∧ a48 ∧ a49 ∧ a50 ∧ a51 ∧ r) : a51 := h.2.2.2.2.2.2.2.2.2.2.2.2.2.2.2.2.2.2.2.2.2.2.2.2.2.2.2.2.2.2.2.2.2.2.2.2.2.2.2.2.2.2.2.2.2.2.2.2.2.2.2.1
theorem q51_ {a0 a1 a2 a3 a4 a5 a6 a7 a8 a9 a10 a11 a12 a13 a14 a15 a16 a17 a18 a19 a20 a21 a22 a23 a24 a25 a26 a27 a28 a29 a30 a31 a32 a33 a34 a35 a36 a37 a38 a39 a40 a41 a42 a43 a44 a45 a46 a47 a48 a49 a50 a51 : Prop} (h : a0 ∧ a1 ∧ a2 ∧ a3 ∧ a4 ∧ a5 ∧ a6 ∧ a7 ∧ a8 ∧ a9 ∧ a10 ∧ a11 ∧ a12 ∧ a13 ∧ a14 ∧ a15 ∧ a16 ∧ a17 ∧ a18 ∧ a19 ∧ a20 ∧ a21 ∧ a22 ∧ a23 ∧ a24 ∧ a25 ∧ a26 ∧ a27 ∧ a28 ∧ a29 ∧ a30 ∧ a31 ∧ a32 ∧ a33 ∧ a34 ∧ a35 ∧ a36 ∧ a37 ∧ a38 ∧ a39 ∧ a40 ∧ a41 ∧ a42 ∧ a43 ∧ a44 ∧ a45 ∧ a46 ∧ a47 ∧ a48 ∧ a49 ∧ a50 ∧ a51) : a51 := h.2.2.2.2.2.2.2.2.2.2.2.2.2.2.2.2.2.2.2.2.2.2.2.2.2.2.2.2.2.2.2.2.2.2.2.2.2.2.2.2.2.2.2.2.2.2.2.2.2.2.2
theorem p52_ {a0 a1 a2 a3 a4 a5 a6 a7 a8 a9 a10 a11 a12 a13 a14 a15 a16 a17 a18 a19 a20 a21 a22 a23 a24 a25 a26 a27 a28 a29 a30 a31 a32 a33 a34 a35 a36 a37 a38 a39 a40 a41 a42 a43 a44 a45 a46 a47 a48 a49 a50 a51 a52 r : Prop} (h : a0 ∧ a1 ∧ a2 ∧ a3 ∧ a4 ∧ a5 ∧ a6 ∧ a7 ∧ a8 ∧ a9 ∧ a10 ∧ a11 ∧ a12 ∧ a13 ∧ a14 ∧ a15 ∧ a16 ∧ a17 ∧ a18 ∧ a19 ∧ a20 ∧ a21 ∧ a22 ∧ a23 ∧ a24 ∧ a25 ∧ a26 ∧ a27 ∧ a28 ∧ a29 ∧ a30 ∧ a31 ∧ a32 ∧ a33 ∧ a34 ∧ a35 ∧ a36 ∧ a37 ∧ a38 ∧ a39 ∧ a40 ∧ a41 ∧ a42 ∧ a43 ∧ a44 ∧ a45 ∧ a46 ∧ a47 ∧ a48 ∧ a49 ∧ a50 ∧ a51 ∧ a52 ∧ r) : a52 := h.2.2.2.2.2.2.2.2.2.2.2.2.2.2.2.2.2.2.2.2.2.2.2.2.2.2.2.2.2.2.2.2.2.2.2.2.2.2.2.2.2.2.2.2.2.2.2.2.2.2.2.2.1
theorem q52_ {a0 a1 a2 a3 a4 a5 a6 a7 a8 a9 a10 a11 a12 a13 a14 a15 a16 a17 a18 a19 a20 a21 a22 a23 a24 a25 a26 a27 a28 a29 a30 a31 a32 a33 a34 a35 a36 a37 a38 a39 a40 a41 a42 a43 a44 a45 a46 a47 a48 a49 a50 a51 a52 : Prop} (h : a0 ∧ a1 ∧ a2 ∧ a3 ∧ a4 ∧ a5 ∧ a6 ∧ a7 ∧ a8 ∧ a9 ∧ a10 ∧ a11 ∧ a12 ∧ a13 ∧ a14 ∧ a15 ∧ a16 ∧ a17 ∧ a18 ∧ a19 ∧ a20 ∧ a21 ∧ a22 ∧ a23 ∧ a24 ∧ a25 ∧ a26 ∧ a27 ∧ a28 ∧ a29 ∧ a30 ∧ a31 ∧ a32 ∧ a33 ∧ a34 ∧ a35 ∧ a36 ∧ a37 ∧ a38 ∧ a39 ∧ a40 ∧ a41 ∧ a42 ∧ a43 ∧ a44 ∧ a45 ∧ a46 ∧ a47 ∧ a48 ∧ a49 ∧ a50 ∧ a51 ∧ a52) : a52 := h.2.2.2.2.2.2.2.2.2.2.2.2.2.2.2.2.2.2.2.2.2.2.2.2.2.2.2.2.2.2.2.2.2.2.2.2.2.2.2.2.2.2.2.2.2.2.2.2.2.2.2.2
theorem p53_ {a0 a1 a2 a3 a4 a5 a6 a7 a8 a9 a10 a11 a12 a13 a14 a15 a16 a17 a18 a19 a20 a21 a22 a23 a24 a25 a26 a27 a28 a29 a30 a31 a32 a33 a34 a35 a36 a37 a38 a39 a40 a41 a42 a43 a44 a45 a46 a47 a48 a49 a50 a51 a52 a53 r : Prop} (h : a0 ∧ a1 ∧ a2 ∧ a3 ∧ a4 ∧ a5 ∧ a6 ∧ a7 ∧ a8 ∧ a9 ∧ a10 ∧ a11 ∧ a12 ∧ a13 ∧ a14 ∧ a15 ∧ a16 ∧ a17 ∧ a18 ∧ a19 ∧ a20 ∧ a21 ∧ a22 ∧ a23 ∧ a24 ∧ a25 ∧ a26 ∧ a27 ∧ a28 ∧ a29 ∧ a30 ∧ a31 ∧ a32 ∧ a33 ∧ a34 ∧ a35 ∧ a36 ∧ a37 ∧ a38 ∧ a39 ∧ a40 ∧ a41 ∧ a42 ∧ a43 ∧ a44 ∧ a45 ∧ a46 ∧ a47 ∧ a48 ∧ a49 ∧ a50 ∧ a51 ∧ a52 ∧ a53 ∧ r) : a53 := h.2.2.2.2.2.2.2.2.2.2.2.2.2.2.2.2.2.2.2.2.2.2.2.2.2.2.2.2.2.2.2.2.2.2.2.2.2.2.2.2.2.2.2.2.2.2.2.2.2.2.2.2.2.1
theorem q53_ {a0 a1 a2 a3 a4 a5 a6 a7 a8 a9 a10 a11 a12 a13 a14 a15 a16 a17 a18 a19 a20 a21 a22 a23 a24 a25 a26 a27 a28 a29 a30 a31 a32 a33 a34 a35 a36 a37 a38 a39 a40 a41 a42 a43 a44 a45 a46 a47 a48 a49 a50 a51 a52 a53 : Prop} (h : a0 ∧ a1 ∧ a2 ∧ a3 ∧ a4 ∧ a5 ∧ a6 ∧ a7 ∧ a8 ∧ a9 ∧ a10 ∧ a11 ∧ a12 ∧ a13 ∧ a14 ∧ a15 ∧ a16 ∧ a17 ∧ a18 ∧ a19 ∧ a20 ∧ a21 ∧ a22 ∧ a23 ∧ a24 ∧ a25 ∧ a26 ∧ a27 ∧ a28 ∧ a29 ∧ a30 ∧ a31 ∧ a32 ∧ a33 ∧ a34 ∧ a35 ∧ a36 ∧ a37 ∧ a38 ∧ a39 ∧ a40 ∧ a41 ∧ a42 ∧ a43 ∧ a44 ∧ a45 ∧ a46 ∧ a47 ∧ a48 ∧ a49 ∧ a50 ∧ a51 ∧ a52 ∧ a53) : a53 := h.2.2.2.2.2.2.2.2.2.2.2.2.2.2.2.2.2.2.2.2.2.2.2.2.2.2.2.2.2.2.2.2.2.2.2.2.2.2.2.2.2.2.2.2.2.2.2.2.2.2.2.2.2
theorem p54_ {a0 a1 a2 a3 a4 a5 a6 a7 a8 a9 a10 a11 a12 a13 a14 a15 a16 a17 a18 a19 a20 a21 a22 a23 a24 a25 a26 a27 a28 a29 a30 a31 a32 a33 a34 a35 a36 a37 a38 a39 a40 a41 a42 a43 a44 a45 a46 a47 a48 a49 a50 a51 a52 a53 a54 r : Prop} (h : a0 ∧ a1 ∧ a2 ∧ a3 ∧ a4 ∧ a5 ∧ a6 ∧ a7 ∧ a8 ∧ a9 ∧ a10 ∧ a11 ∧ a12 ∧ a13 ∧ a14 ∧ a15 ∧ a16 ∧ a17 ∧ a18 ∧ a19 ∧ a20 ∧ a21 ∧ a22 ∧ a23 ∧ a24 ∧ a25 ∧ a26 ∧ a27 ∧ a28 ∧ a29 ∧ a30 ∧ a31 ∧ a32 ∧ a33 ∧ a34 ∧ a35 ∧ a36 ∧ a37 ∧ a38 ∧ a39 ∧ a40 ∧ a41 ∧ a42 ∧ a43 ∧ a44 ∧ a45 ∧ a46 ∧ a47 ∧ a48 ∧ a49 ∧ a50 ∧ a51 ∧ a52 ∧ a53 ∧ a54 ∧ r) : a54 := h.2.2.2.2.2.2.2.2.2.2.2.2.2.2.2.2.2.2.2.2.2.2.2.2.2.2.2.2.2.2.2.2.2.2.2.2.2.2.2.2.2.2.2.2.2.2.2.2.2.2.2.2.2.2.1
theorem q54_ {a0 a1 a2 a3 a4 a5 a6 a7 a8 a9 a10 a11 a12 a13 a14 a15 a16 a17 a18 a19 a20 a21 a22 a23 a24 a25 a26 a27 a28 a29 a30 a31 a32 a33 a34 a35 a36 a37 a38 a39 a40 a41 a42 a43 a44 a45 a46 a47 a48 a49 a50 a51 a52 a53 a54 : Prop} (h : a0 ∧ a1 ∧ a2 ∧ a3 ∧ a4 ∧ a5 ∧ a6 ∧ a7 ∧ a8 ∧ a9 ∧ a10 ∧ a11 ∧ a12 ∧ a13 ∧ a14 ∧ a15 ∧ a16 ∧ a17 ∧ a18 ∧ a19 ∧ a20 ∧ a21 ∧ a22 ∧ a23 ∧ a24 ∧ a25 ∧ a26 ∧ a27 ∧ a28 ∧ a29 ∧ a30 ∧ a31 ∧ a32 ∧ a33 ∧ a34 ∧ a35 ∧ a36 ∧ a37 ∧ a38 ∧ a39 ∧ a40 ∧ a41 ∧ a42 ∧ a43 ∧ a44 ∧ a45 ∧ a46 ∧ a47 ∧ a48 ∧ a49 ∧ a50 ∧ a51 ∧ a52 ∧ a53 ∧ a54) : a54 := h.2.2.2.2.2.2.2.2.2.2.2.2.2.2.2.2.2.2.2.2.2.2.2.2.2.2.2.2.2.2.2.2.2.2.2.2.2.2.2.2.2.2.2.2.2.2.2.2.2.2.2.2.2.2
theorem p55_ {a0 a1 a2 a3 a4 a5 a6 a7 a8 a9 a10 a11 a12 a13 a14 a15 a16 a17 a18 a19 a20 a21 a22 a23 a24 a25 a26 a27 a28 a29 a30 a31 a32 a33 a34 a35 a36 a37 a38 a39 a40 a41 a42 a43 a44 a45 a46 a47 a48 a49 a50 a51 a52 a53 a54 a55 r : Prop} (h : a0 ∧ a1 ∧ a2 ∧ a3 ∧ a4 ∧ a5 ∧ a6 ∧ a7 ∧ a8 ∧ a9 ∧ a10 ∧ a11 ∧ a12 ∧ a13 ∧ a14 ∧ a15 ∧ a16 ∧ a17 ∧ a18 ∧ a19 ∧ a20 ∧ a21 ∧ a22 ∧ a23 ∧ a24 ∧ a25 ∧ a26 ∧ a27 ∧ a28 ∧ a29 ∧ a30 ∧ a31 ∧ a32 ∧ a33 ∧ a34 ∧ a35 ∧ a36 ∧ a37 ∧ a38 ∧ a39 ∧ a40 ∧ a41 ∧ a42 ∧ a43 ∧ a44 ∧ a45 ∧ a46 ∧ a47 ∧ a48 ∧ a49 ∧ a50 ∧ a51 ∧ a52 ∧ a53 ∧ a54 ∧ a55 ∧ r) : a55 := h.2.2.2.2.2.2.2.2.2.2.2.2.2.2.2.2.2.2.2.2.2.2.2.2.2.2.2.2.2.2.2.2.2.2.2.2.2.2.2.2.2.2.2.2.2.2.2.2.2.2.2.2.2.2.2.1
theorem q55_ {a0 a1 a2 a3 a4 a5 a6 a7 a8 a9 a10 a11 a12 a13 a14 a15 a16 a17 a18 a19 a20 a21 a22 a23 a24 a25 a26 a27 a28 a29 a30 a31 a32 a33 a34 a35 a36 a37 a38 a39 a40 a41 a42 a43 a44 a45 a46 a47 a48 a49 a50 a51 a52 a53 a54 a55 : Prop} (h : a0 ∧ a1 ∧ a2 ∧ a3 ∧ a4 ∧ a5 ∧ a6 ∧ a7 ∧ a8 ∧ a9 ∧ a10 ∧ a11 ∧ a12 ∧ a13 ∧ a14 ∧ a15 ∧ a16 ∧ a17 ∧ a18 ∧ a19 ∧ a20 ∧ a21 ∧ a22 ∧ a23 ∧ a24 ∧ a25 ∧ a26 ∧ a27 ∧ a28 ∧ a29 ∧ a30 ∧ a31 ∧ a32 ∧ a33 ∧ a34 ∧ a35 ∧ a36 ∧ a37 ∧ a38 ∧ a39 ∧ a40 ∧ a41 ∧ a42 ∧ a43 ∧ a44 ∧ a45 ∧ a46 ∧ a47 ∧ a48 ∧ a49 ∧ a50 ∧ a51 ∧ a52 ∧ a53 ∧ a54 ∧ a55) : a55 := h.2.2.2.2.2.2.2.2.2.2.2.2.2.2.2.2.2.2.2.2.2.2.2.2.2.2.2.2.2.2.2.2.2.2.2.2.2.2.2.2.2.2.2.2.2.2.2.2.2.2.2.2.2.2.2
theorem p56_ {a0 a1 a2 a3 a4 a5 a6 a7 a8 a9 a10 a11 a12 a13 a14 a15 a16 a17 a18 a19 a20 a21 a22 a23 a24 a25 a26 a27 a28 a29 a30 a31 a32 a33 a34 a35 a36 a37 a38 a39 a40 a41 a42 a43 a44 a45 a46 a47 a48 a49 a50 a51 a52 a53 a54 a55 a56 r : Prop} (h : a0 ∧ a1 ∧ a2 ∧ a3 ∧ a4 ∧ a5 ∧ a6 ∧ a7 ∧ a8 ∧ a9 ∧ a10 ∧ a11 ∧ a12 ∧ a13 ∧ a14 ∧ a15 ∧ a16 ∧ a17 ∧ a18 ∧ a19 ∧ a20 ∧ a21 ∧ a22 ∧ a23 ∧ a24 ∧ a25 ∧ a26 ∧ a27 ∧ a28 ∧ a29 ∧ a30 ∧ a31 ∧ a32 ∧ a33 ∧ a34 ∧ a35 ∧ a36 ∧ a37 ∧ a38 ∧ a39 ∧ a40 ∧ a41 ∧ a42 ∧ a43 ∧ a44 ∧ a45 ∧ a46 ∧ a47 ∧ a48 ∧ a49 ∧ a50 ∧ a51 ∧ a52 ∧ a53 ∧ a54 ∧ a55 ∧ a56 ∧ r) : a56 := h.2.2.2.2.2.2.2.2.2.2.2.2.2.2.2.2.2.2.2.2.2.2.2.2.2.2.2.2.2.2.2.2.2.2.2.2.2.2.2.2.2.2.2.2.2.2.2.2.2.2.2.2.2.2.2.2.1
theorem q56_ {a0 a1 a2 a3 a4 a5 a6 a7 a8 a9 a10 a11 a12 a13 a14 a15 a16 a17 a18 a19 a20 a21 a22 a23 a24 a25 a26 a27 a28 a29 a30 a31 a32 a33 a34 a35 a36 a37 a38 a39 a40 a41 a42 a43 a44 a45 a46 a47 a48 a49 a50 a51 a52 a53 a54 a55 a56 : Prop} (h : a0 ∧ a1 ∧ a2 ∧ a3 ∧ a4 ∧ a5 ∧ a6 ∧ a7 ∧ a8 ∧ a9 ∧ a10 ∧ a11 ∧ a12 ∧ a13 ∧ a14 ∧ a15 ∧ a16 ∧ a17 ∧ a18 ∧ a19 ∧ a20 ∧ a21 ∧ a22 ∧ a23 ∧ a24 ∧ a25 ∧ a26 ∧ a27 ∧ a28 ∧ a29 ∧ a30 ∧ a31 ∧ a32 ∧ a33 ∧ a34 ∧ a35 ∧ a36 ∧ a37 ∧ a38 ∧ a39 ∧ a40 ∧ a41 ∧ a42 ∧ a43 ∧ a44 ∧ a45 ∧ a46 ∧ a47 ∧ a48 ∧ a49 ∧ a50 ∧ a51 ∧ a52 ∧ a53 ∧ a54 ∧ a55 ∧ a56) : a56 := h.2.2.2.2.2.2.2.2.2.2.2.2.2.2.2.2.2.2.2.2.2.2.2.2.2.2.2.2.2.2.2.2.2.2.2.2.2.2.2.2.2.2.2.2.2.2.2.2.2.2.2.2.2.2.2.2
theorem p57_ {a0 a1 a2 a3 a4 a5 a6 a7 a8 a9 a10 a11 a12 a13 a14 a15 a16 a17 a18 a19 a20 a21 a22 a23 a24 a25 a26 a27 a28 a29 a30 a31 a32 a33 a34 a35 a36 a37 a38 a39 a40 a41 a42 a43 a44 a45 a46 a47 a48 a49 a50 a51 a52 a53 a54 a55 a56 a57 r : Prop} (h : a0 ∧ a1 ∧ a2 ∧ a3 ∧ a4 ∧ a5 ∧ a6 ∧ a7 ∧ a8 ∧ a9 ∧ a10 ∧ a11 ∧ a12 ∧ a13 ∧ a14 ∧ a15 ∧ a16 ∧ a17 ∧ a18 ∧ a19 ∧ a20 ∧ a21 ∧ a22 ∧ a23 ∧ a24 ∧ a25 ∧ a26 ∧ a27 ∧ a28 ∧ a29 ∧ a30 ∧ a31 ∧ a32 ∧ a33 ∧ a34 ∧ a35 ∧ a36 ∧ a37 ∧ a38 ∧ a39 ∧ a40 ∧ a41 ∧ a42 ∧ a43 ∧ a44 ∧ a45 ∧ a46 ∧ a47 ∧ a48 ∧ a49 ∧ a50 ∧ a51 ∧ a52 ∧ a53 ∧ a54 ∧ a55 ∧ a56 ∧ a57 ∧ r) : a57 := h.2.2.2.2.2.2.2.2.2.2.2.2.2.2.2.2.2.2.2.2.2.2.2.2.2.2.2.2.2.2.2.2.2.2.2.2.2.2.2.2.2.2.2.2.2.2.2.2.2.2.2.2.2.2.2.2.2.1
theorem q57_ {a0 a1 a2 a3 a4 a5 a6 a7 a8 a9 a10 a11 a12 a13 a14 a15 a16 a17 a18 a19 a20 a21 a22 a23 a24 a25 a26 a27 a28 a29 a30 a31 a32 a33 a34 a35 a36 a37 a38 a39 a40 a41 a42 a43 a44 a45 a46 a47 a48 a49 a50 a51 a52 a53 a54 a55 a56 a57 : Prop} (h : a0 ∧ a1 ∧ a2 ∧ a3 ∧ a4 ∧ a5 ∧ a6 ∧ a7 ∧ a8 ∧ a9 ∧ a10 ∧ a11 ∧ a12 ∧ a13 ∧ a14 ∧ a15 ∧ a16 ∧ a17 ∧ a18 ∧ a19 ∧ a20 ∧ a21 ∧ a22 ∧ a23 ∧ a24 ∧ a25 ∧ a26 ∧ a27 ∧ a28 ∧ a29 ∧ a30 ∧ a31 ∧ a32 ∧ a33 ∧ a34 ∧ a35 ∧ a36 ∧ a37 ∧ a38 ∧ a39 ∧ a40 ∧ a41 ∧ a42 ∧ a43 ∧ a44 ∧ a45 ∧ a46 ∧ a47 ∧ a48 ∧ a49 ∧ a50 ∧ a51 ∧ a52 ∧ a53 ∧ a54 ∧ a55 ∧ a56 ∧ a57) : a57 := h.2.2.2.2.2.2.2.2.2.2.2.2.2.2.2.2.2.2.2.2.2.2.2.2.2.2.2.2.2.2.2.2.2.2.2.2.2.2.2.2.2.2.2.2.2.2.2.2.2.2.2.2.2.2.2.2.2
theorem p58_ {a0 a1 a2 a3 a4 a5 a6 a7 a8 a9 a10 a11 a12 a13 a14 a15 a16 a17 a18 a19 a20 a21 a22 a23 a24 a25 a26 a27 a28 a29 a30 a31 a32 a33 a34 a35 a36 a37 a38 a39 a40 a41 a42 a43 a44 a45 a46 a47 a48 a49 a50 a51 a52 a53 a54 a55 a56 a57 a58 r : Prop} (h : a0 ∧ a1 ∧ a2 ∧ a3 ∧ a4 ∧ a5 ∧ a6 ∧ a7 ∧ a8 ∧ a9 ∧ a10 ∧ a11 ∧ a12 ∧ a13 ∧ a14 ∧ a15 ∧ a16 ∧ a17 ∧ a18 ∧ a19 ∧ a20 ∧ a21 ∧ a22 ∧ a23 ∧ a24 ∧ a25 ∧ a26 ∧ a27 ∧ a28 ∧ a29 ∧ a30 ∧ a31 ∧ a32 ∧ a33 ∧ a34 ∧ a35 ∧ a36 ∧ a37 ∧ a38 ∧ a39 ∧ a40 ∧ a41 ∧ a42 ∧ a43 ∧ a44 ∧ a45 ∧ a46 ∧ a47 ∧ a48 ∧ a49 ∧ a50 ∧ a51 ∧ a52 ∧ a53 ∧ a54 ∧ a55 ∧ a56 ∧ a57 ∧ a58 ∧ r) : a58 := h.2.2.2.2.2.2.2.2.2.2.2.2.2.2.2.2.2.2.2.2.2.2.2.2.2.2.2.2.2.2.2.2.2.2.2.2.2.2.2.2.2.2.2.2.2.2.2.2.2.2.2.2.2.2.2.2.2.2.1
theorem q58_ {a0 a1 a2 a3 a4 a5 a6 a7 a8 a9 a10 a11 a12 a13 a14 a15 a16 a17 a18 a19 a20 a21 a22 a23 a24 a25 a26 a27 a28 a29 a30 a31 a32 a33 a34 a35 a36 a37 a38 a39 a40 a41 a42 a43 a44 a45 a46 a47 a48 a49 a50 a51 a52 a53 a54 a55 a56 a57 a58 : Prop} (h : a0 ∧ a1 ∧ a2 ∧ a3 ∧ a4 ∧ a5 ∧ a6 ∧ a7 ∧ a8 ∧ a9 ∧ a10 ∧ a11 ∧ a12 ∧ a13 ∧ a14 ∧ a15 ∧ a16 ∧ a17 ∧ a18 ∧ a19 ∧ a20 ∧ a21 ∧ a22 ∧ a23 ∧ a24 ∧ a25 ∧ a26 ∧ a27 ∧ a28 ∧ a29 ∧ a30 ∧ a31 ∧ a32 ∧ a33 ∧ a34 ∧ a35 ∧ a36 ∧ a37 ∧ a38 ∧ a39 ∧ a40 ∧ a41 ∧ a42 ∧ a43 ∧ a44 ∧ a45 ∧ a46 ∧ a47 ∧ a48 ∧ a49 ∧ a50 ∧ a51 ∧ a52 ∧ a53 ∧ a54 ∧ a55 ∧ a56 ∧ a57 ∧ a58) : a58 := h.2.2.2.2.2.2.2.2.2.2.2.2.2.2.2.2.2.2.2.2.2.2.2.2.2.2.2.2.2.2.2.2.2.2.2.2.2.2.2.2.2.2.2.2.2.2.2.2.2.2.2.2.2.2.2.2.2.2
theorem p59_ {a0 a1 a2 a3 a4 a5 a6 a7 a8 a9 a10 a11 a12 a13 a14 a15 a16 a17 a18 a19 a20 a21 a22 a23 a24 a25 a26 a27 a28 a29 a30 a31 a32 a33 a34 a35 a36 a37 a38 a39 a40 a41 a42 a43 a44 a45 a46 a47 a48 a49 a50 a51 a52 a53 a54 a55 a56 a57 a58 a59 r : Prop} (h : a0 ∧ a1 ∧ a2 ∧ a3 ∧ a4 ∧ a5 ∧ a6 ∧ a7 ∧ a8 ∧ a9 ∧ a10 ∧ a11 ∧ a12 ∧ a13 ∧ a14 ∧ a15 ∧ a16 ∧ a17 ∧ a18 ∧ a19 ∧ a20 ∧ a21 ∧ a22 ∧ a23 ∧ a24 ∧ a25 ∧ a26 ∧ a27 ∧ a28 ∧ a29 ∧ a30 ∧ a31 ∧ a32 ∧ a33 ∧ a34 ∧ a35 ∧ a36 ∧ a37 ∧ a38 ∧ a39 ∧ a40 ∧ a41 ∧ a42 ∧ a43 ∧ a44 ∧ a45 ∧ a46 ∧ a47 ∧ a48 ∧ a49 ∧ a50 ∧ a51 ∧ a52 ∧ a53 ∧ a54 ∧ a55 ∧ a56 ∧ a57 ∧ a58 ∧ a59 ∧ r) : a59 := h.2.2.2.2.2.2.2.2.2.2.2.2.2.2.2.2.2.2.2.2.2.2.2.2.2.2.2.2.2.2.2.2.2.2.2.2.2.2.2.2.2.2.2.2.2.2.2.2.2.2.2.2.2.2.2.2.2.2.2.1
theorem q59_ {a0 a1 a2 a3 a4 a5 a6 a7 a8 a9 a10 a11 a12 a13 a14 a15 a16 a17 a18 a19 a20 a21 a22 a23 a24 a25 a26 a27 a28 a29 a30 a31 a32 a33 a34 a35 a36 a37 a38 a39 a40 a41 a42 a43 a44 a45 a46 a47 a48 a49 a50 a51 a52 a53 a54 a55 a56 a57 a58 a59 : Prop} (h : a0 ∧ a1 ∧ a2 ∧ a3 ∧ a4 ∧ a5 ∧ a6 ∧ a7 ∧ a8 ∧ a9 ∧ a10 ∧ a11 ∧ a12 ∧ a13 ∧ a14 ∧ a15 ∧ a16 ∧ a17 ∧ a18 ∧ a19 ∧ a20 ∧ a21 ∧ a22 ∧ a23 ∧ a24 ∧ a25 ∧ a26 ∧ a27 ∧ a28 ∧ a29 ∧ a30 ∧ a31 ∧ a32 ∧ a33 ∧ a34 ∧ a35 ∧ a36 ∧ a37 ∧ a38 ∧ a39 ∧ a40 ∧ a41 ∧ a42 ∧ a43 ∧ a44 ∧ a45 ∧ a46 ∧ a47 ∧ a48 ∧ a49 ∧ a50 ∧ a51 ∧ a52 ∧ a53 ∧ a54 ∧ a55 ∧ a56 ∧ a57 ∧ a58 ∧ a59) : a59 := h.2.2.2.2.2.2.2.2.2.2.2.2.2.2.2.2.2.2.2.2.2.2.2.2.2.2.2.2.2.2.2.2.2.2.2.2.2.2.2.2.2.2.2.2.2.2.2.2.2.2.2.2.2.2.2.2.2.2.2

/-! ### A region that draws its order, by an invariant -/
section
variable {P : Program} {ops : Array Oper} {Q : Exit → Act → World → Prop} {md : Region.Mode} {S : World → Prop}

/-- i is done, too -/
def upd (d : Nat → Bool) (i : Nat) : Nat → Bool := fun j => if j = i then true else d j
/-- what operation i waits for -/
def waits (md : Region.Mode) (ops : Array Oper) (i : Nat) : List Nat := ((ops[i]?).map fun o => (o.after.toList.filter fun e => Region.binds md e).map (·.on)).getD []
/-- nobody waits for what comes behind him -/
def lowly (md : Region.Mode) (ops : Array Oper) : Bool := (List.range ops.size).all fun i => (waits md ops i).all fun j => decide (j < i)
def left (l : Array Bool) : List Nat := (List.range l.size).filter fun i => !l.getD i true

theorem waits_mem {i : Nat} {o : Oper} (ho : ops[i]? = some o) {e : Edge} (he : e ∈ o.after) (hb : Region.binds md e = true) : e.on ∈ waits md ops i := by
  simp only [waits, ho, Option.map_some, Option.getD_some]
  exact List.mem_map.2 ⟨e, List.mem_filter.2 ⟨by simpa using he, hb⟩, rfl⟩

theorem countP_listed (l : List Bool) (i : Nat) (h : l[i]? = some false) : ((l.set i true).countP fun b => !b) + 1 = l.countP fun b => !b := by
  induction l generalizing i with
  | nil => simp at h
  | cons x r ih =>
    cases i with
    | zero => simp at h; subst h; simp
    | succ i => simp at h; have := ih i h; simp only [List.set_cons_succ, List.countP_cons]; omega

theorem wpAnyH_inv (R : List Nat) (hlow : lowly md ops = true) (Inv : (Nat → Bool) → Act → World → Prop) (l0 : Array Bool)
    (hR : ∀ i, i < ops.size → l0.getD i true = false → i ∈ R) (hR' : ∀ i, i ∈ R → i < ops.size ∧ l0.getD i true = false) (hS : ∀ d a w, Inv d a w → S w)
    (step : ∀ i, i ∈ R → ∀ d a w, Inv d a w → d i = false → (∀ j, j ∈ R → (waits md ops i).contains j = true → d j = true) → wpOp P ops Q i (fun a' w' => Inv (upd d i) a' w') a w)
    (done : ∀ d a w, Inv d a w → (∀ i, i ∈ R → d i = true) → Q .normal a w) :
    ∀ (fuel : Nat) (listed : Array Bool) (d : Nat → Bool) (a : Act) (w : World), listed.size = ops.size → (∀ i, i < ops.size → listed.getD i true = (l0.getD i true || d i)) → (listed.toList.countP fun b => !b) ≤ fuel → Inv d a w →
      wpAnyH P md ops Q S fuel listed a w := by
  -- where nothing may come up all is done
  have all : ∀ (listed : Array Bool), listed.size = ops.size → Region.ready md ops listed = [] → ∀ i, i < ops.size → listed.getD i true = true := by
    intro listed hs hr i
    induction i using Nat.strongRecOn with
    | _ i ih =>
      intro hi
      cases h : listed.getD i true with
      | true => rfl
      | false =>
        exfalso
        have : i ∈ Region.ready md ops listed := by
          refine mem_ready.2 ⟨h, ops[i], Array.getElem?_eq_getElem hi, fun e he hb => ?_⟩
          have hw := waits_mem (md := md) (ops := ops) (Array.getElem?_eq_getElem hi) he hb
          have hlt : e.on < i := by
            have := List.all_eq_true.1 (List.all_eq_true.1 hlow i (List.mem_range.2 hi)) e.on hw
            simpa using this
          have := ih e.on hlt (by omega)
          rw [Array.getD_eq_getD_getElem?] at this ⊢
          rw [Array.getElem?_eq_getElem (by omega)] at this ⊢
          exact this
        rw [hr] at this
        cases this
  have fin : ∀ (listed : Array Bool) (d : Nat → Bool) (a : Act) (w : World), (∀ i, i < ops.size → listed.getD i true = (l0.getD i true || d i)) → (∀ i, i < ops.size → listed.getD i true = true) → Inv d a w → Q .normal a w := by
    intro listed d a w hl ha hI
    refine done d a w hI fun i hi => ?_
    obtain ⟨h1, h2⟩ := hR' i hi
    have := hl i h1
    rw [ha i h1, h2] at this
    simpa using this.symm
  intro fuel
  induction fuel with
  | zero =>
    intro listed d a w hs hl hc hI
    have hall : ∀ i, i < ops.size → listed.getD i true = true := by
      intro i hi
      cases h : listed.getD i true with
      | true => rfl
      | false =>
        exfalso
        rw [Array.getD_eq_getD_getElem?, Array.getElem?_eq_getElem (by omega)] at h
        have hm : listed[i]'(by omega) ∈ listed.toList := by simp
        have : 0 < listed.toList.countP fun b => !b := List.countP_pos_iff.2 ⟨_, hm, by simp at h; simp [h]⟩
        omega
    refine ⟨?_, fin listed d a w hl hall hI⟩
    cases h : Region.ready md ops listed with
    | nil => rfl
    | cons x r =>
      exfalso
      have hx : x ∈ Region.ready md ops listed := by rw [h]; simp
      obtain ⟨h0, o, ho, _⟩ := mem_ready.1 hx
      have := hall x (Array.getElem?_eq_some_iff.1 ho).1
      rw [h0] at this; cases this
  | succ fuel ih =>
    intro listed d a w hs hl hc hI
    refine ⟨fun hr => fin listed d a w hl (all listed hs hr) hI, fun i hi => ?_⟩
    obtain ⟨h0, o, ho, hall⟩ := mem_ready.1 hi
    have hio : i < ops.size := (Array.getElem?_eq_some_iff.1 ho).1
    have hli := hl i hio
    rw [h0] at hli
    have hl0 : l0.getD i true = false := by
      cases h : l0.getD i true with
      | false => rfl
      | true => rw [h] at hli; simp at hli
    have hdi : d i = false := by rw [hl0] at hli; simpa using hli.symm
    have hiR := hR i hio hl0
    refine wpOp_mono (fun a' w' h' => ⟨hS _ _ _ h', ih (listed.setIfInBounds i true) (upd d i) a' w' (by simpa using hs) (fun j hj => ?_) ?_ h'⟩) (step i hiR d a w hI hdi fun j hj hwj => ?_)
    · by_cases hji : j = i
      · subst hji
        simp [upd, Array.getD_eq_getD_getElem?, Array.getElem?_setIfInBounds, hs, hj]
      · rw [getD_set_ne true (Ne.symm hji), hl j hj]
        simp [upd, hji]
    · have h1 : listed.toList[i]? = some false := by
        rw [Array.getD_eq_getD_getElem?, Array.getElem?_eq_getElem (by omega)] at h0
        simp at h0
        simp [hs, hio, h0]
      have := countP_listed listed.toList i h1
      rw [Array.toList_setIfInBounds]
      omega
    · have hm : j ∈ waits md ops i := by simpa using hwj
      simp only [waits, ho, Option.map_some, Option.getD_some] at hm
      obtain ⟨e, he, rfl⟩ := List.mem_map.1 hm
      obtain ⟨he1, he2⟩ := List.mem_filter.1 he
      have h3 := hall e (by simpa using he1) he2
      obtain ⟨h1, h2⟩ := hR' e.on hj
      have h4 := hl e.on h1
      rw [h2, Array.getD_eq_getD_getElem?, Array.getElem?_eq_getElem (by omega)] at h4
      rw [Array.getD_eq_getD_getElem?, Array.getElem?_eq_getElem (by omega)] at h3
      simp at h3 h4
      rw [h3] at h4
      exact h4.symm

/-- A WHOLE REGION: R: all its operations' numbers. -/
theorem wp_region_inv {id : Nat} {a : Act} {w : World} (n : Nat) (hm : P.follows .mixedOrders = true) (hlow : lowly .any ops = true) (hn : ops.size = n) (Inv : (Nat → Bool) → Act → World → Prop)
    (h0 : Inv (fun _ => false) a w.drew)
    (step : ∀ i, i ∈ List.range n → ∀ d a w, Inv d a w → d i = false → (∀ j, j ∈ List.range n → (waits .any ops i).contains j = true → d j = true) → wpOp P ops Q i (fun a' w' => Inv (upd d i) a' w') a w)
    (done : ∀ d a w, Inv d a w → (∀ i, i ∈ List.range n → d i = true) → Q .normal a w) : (Code.region id ops true).wp P Q a w := by
  refine wp_region_held_drew (S := fun _ => True) hm trivial fun _ => ?_
  refine wpAnyH_inv (List.range n) hlow Inv (Array.replicate ops.size false) (fun i hi _ => List.mem_range.2 (hn ▸ hi)) (fun i hi => ?_) (fun _ _ _ _ => trivial) step done ops.size _ (fun _ => false) a w.drew (by simp) (fun i hi => by simp) ?_ h0
  · have : i < ops.size := by rw [hn]; exact List.mem_range.1 hi
    exact ⟨this, by simp [Array.getD_eq_getD_getElem?, this]⟩
  · refine Nat.le_trans List.countP_le_length (by simp)

/-- the steps, one by one -/
def StepsOf (P : Program) (ops : Array Oper) (Q : Exit → Act → World → Prop) (md : Region.Mode) (n : Nat) (Inv : (Nat → Bool) → Act → World → Prop) (l : List Nat) : Prop :=
  ∀ i, i ∈ l → ∀ d a w, Inv d a w → d i = false → (∀ j, j ∈ List.range n → (waits md ops i).contains j = true → d j = true) → wpOp P ops Q i (fun a' w' => Inv (upd d i) a' w') a w
theorem StepsOf.nil {n : Nat} {Inv : (Nat → Bool) → Act → World → Prop} : StepsOf P ops Q md n Inv [] := fun _ h => by cases h
/-- One operation: the world and the frame at hand, what is done; what it waits for is done (ws: a list that the kernel compares); behind it the invariant, handed over behind 'K'. -/
theorem StepsOf.cons {n i : Nat} {Inv : (Nat → Bool) → Act → World → Prop} {l ws : List Nat} {o : Oper} (ho : ops[i]? = some o) (hw : waits md ops i = ws) (hn : (ws.all fun j => decide (j < n)) = true)
    (h : ∀ d a w, Inv d a w → d i = false → (∀ j, j ∈ ws → d j = true) → ∀ K : Act → World → Prop, (∀ a' w', Inv (upd d i) a' w' → K a' w') → if Region.wanted o (yielded ops a.tmps) = true then Oper.wp P o a w K Q else K (a.put o.dst undef) w)
    (hs : StepsOf P ops Q md n Inv l) : StepsOf P ops Q md n Inv (i :: l) := fun j hj => by
  rcases List.mem_cons.1 hj with rfl | hj
  · intro d a w hI hd hws
    refine wpOp_step ho fun K hK => h d a w hI hd (fun k hk => hws k (List.mem_range.2 ?_) ?_) K hK
    · simpa using List.all_eq_true.1 hn k hk
    · rw [hw]; simpa using hk
  · exact hs j hj

/-! the same, the frame a function of the slots that the region writes (s) and of the blocks that it makes (b) -/
/-- one value more -/
def ups {α : Type} (s : Nat → α) (i : Nat) (v : α) : Nat → α := fun j => if j = i then v else s j
def StepsF (P : Program) (ops : Array Oper) (Q : Exit → Act → World → Prop) (md : Region.Mode) (n : Nat) (act : (Nat → Value) → (Nat → Nat) → Act) (F : (Nat → Bool) → (Nat → Value) → (Nat → Nat) → World → Prop) (l : List Nat) : Prop :=
  ∀ i, i ∈ l → ∀ d s b w, F d s b w → d i = false → (∀ j, j ∈ List.range n → (waits md ops i).contains j = true → d j = true) → wpOp P ops Q i (fun a' w' => ∃ s' b', a' = act s' b' ∧ F (upd d i) s' b' w') (act s b) w
theorem StepsF.nil {n : Nat} {act : (Nat → Value) → (Nat → Nat) → Act} {F : (Nat → Bool) → (Nat → Value) → (Nat → Nat) → World → Prop} : StepsF P ops Q md n act F [] := fun _ h => by cases h
theorem StepsF.cons {n i : Nat} {act : (Nat → Value) → (Nat → Nat) → Act} {F : (Nat → Bool) → (Nat → Value) → (Nat → Nat) → World → Prop} {l ws : List Nat} {o : Oper} (ho : ops[i]? = some o) (hw : waits md ops i = ws) (hn : (ws.all fun j => decide (j < n)) = true)
    (h : ∀ d s b w, Hid (F d s b w) → d i = false → (∀ j, j ∈ ws → d j = true) → ∀ K : Act → World → Prop, Hid (∀ s' b' w', F (upd d i) s' b' w' → K (act s' b') w') → if Region.wanted o (yielded ops (act s b).tmps) = true then Oper.wp P o (act s b) w K Q else K ((act s b).put o.dst undef) w)
    (hs : StepsF P ops Q md n act F l) : StepsF P ops Q md n act F (i :: l) := fun j hj => by
  rcases List.mem_cons.1 hj with rfl | hj
  · intro d s b w hI hd hws
    refine wpOp_step ho fun K hK => h d s b w hI hd (fun k hk => hws k (List.mem_range.2 ?_) ?_) K fun s' b' w' hF => hK _ _ ⟨s', b', rfl, hF⟩
    · simpa using List.all_eq_true.1 hn k hk
    · rw [hw]; simpa using hk
  · exact hs j hj
theorem wp_region_fun {id : Nat} {a : Act} {w : World} (n : Nat) (hm : P.follows .mixedOrders = true) (hlow : lowly .any ops = true) (hn : ops.size = n)
    (act : (Nat → Value) → (Nat → Nat) → Act) (F : (Nat → Bool) → (Nat → Value) → (Nat → Nat) → World → Prop) (ha : a = act (fun j => a.eval (.tmp j)) (fun _ => 0))
    (h0 : F (fun _ => false) (fun j => a.eval (.tmp j)) (fun _ => 0) w.drew)
    (step : StepsF P ops Q .any n act F (List.range n))
    (done : ∀ d s b w', F d s b w' → (∀ i, i ∈ List.range n → d i = true) → Q .normal (act s b) w') : (Code.region id ops true).wp P Q a w :=
  wp_region_inv n hm hlow hn (fun d a w => ∃ s b, a = act s b ∧ F d s b w) ⟨_, _, ha, h0⟩
    (fun i hi d a w hI hd hw => by obtain ⟨s, b, rfl, hF⟩ := hI; exact step i hi d s b w hF hd hw)
    (fun d a w hI hall => by obtain ⟨s, b, rfl, hF⟩ := hI; exact done d s b w hF hall)
end
end Go.Proofs.YtjkeaiihjbcfgaaDoor

/- CA -/
namespace Go.Proofs.YtjkeaiihjbcfgaaDoor
set_option linter.unusedVariables false
set_option maxRecDepth 2000
set_option linter.unusedSimpArgs false
def in32 (x : Int) : Prop := 0 ≤ x ∧ x < 4294967296
def inB (x : Int) : Prop := 0 ≤ x ∧ x < 256
def add32 (x y : Int) : Int := (x + y) % 4294967296
def xor32 (x y : Int) : Int := ((x.toNat ^^^ y.toNat : Nat) : Int)
/-- turned to the left by n of 32 -/
def rot32 (n : Nat) (x : Int) : Int := (((x.toNat * 2 ^ n) % 4294967296 ||| x.toNat / 2 ^ (32 - n) : Nat) : Int)
theorem in_add32 (x y : Int) : in32 (add32 x y) := by unfold in32 add32; omega
theorem in_xor32 {x y : Int} (hx : in32 x) (hy : in32 y) : in32 (xor32 x y) := by
  unfold in32 xor32 at *
  have h := Nat.xor_lt_two_pow (n := 32) (x := x.toNat) (y := y.toNat) (by omega) (by omega)
  omega
theorem in_rot32 (n : Nat) {x : Int} (hx : in32 x) : in32 (rot32 n x) := by
  unfold in32 rot32 at *
  have h1 : x.toNat / 2 ^ (32 - n) < 2 ^ 32 := Nat.lt_of_le_of_lt (Nat.div_le_self _ _) (by omega)
  have h := Nat.or_lt_two_pow (n := 32) (x := (x.toNat * 2 ^ n) % 4294967296) (y := x.toNat / 2 ^ (32 - n)) (by omega) h1
  omega
def bv (x : Int) : BitVec 32 := BitVec.ofNat 32 x.toNat
theorem bv_inj {x y : Int} (hx : in32 x) (hy : in32 y) (h : bv x = bv y) : x = y := by
  unfold bv in32 at *
  have := congrArg BitVec.toNat h
  simp only [BitVec.toNat_ofNat] at this
  omega
theorem bv_add {x y : Int} (hx : in32 x) (hy : in32 y) : bv (add32 x y) = bv x + bv y := by
  unfold bv add32 in32 at *
  apply BitVec.eq_of_toNat_eq
  simp only [BitVec.toNat_ofNat, BitVec.toNat_add]
  omega
theorem bv_xor {x y : Int} : bv (xor32 x y) = bv x ^^^ bv y := by
  unfold bv xor32
  apply BitVec.eq_of_toNat_eq
  simp only [BitVec.toNat_ofNat, BitVec.toNat_xor, Int.toNat_natCast]
  rw [Nat.xor_mod_two_pow]
theorem bv_rot {n : Nat} (hn : n < 32) {x : Int} (hx : in32 x) : bv (rot32 n x) = (bv x).rotateLeft n := by
  have hi := in_rot32 n hx
  unfold bv rot32 in32 at *
  apply BitVec.eq_of_toNat_eq
  simp only [BitVec.toNat_ofNat, BitVec.toNat_rotateLeft, Int.toNat_natCast] at *
  rw [Nat.mod_eq_of_lt (a := x.toNat) (by omega), Nat.mod_eq_of_lt (a := n) hn, Nat.shiftLeft_eq, Nat.shiftRight_eq_div_pow]
  exact Nat.mod_eq_of_lt (by omega)
theorem rotl_inj {n : Nat} (hn : n < 32) {x y : BitVec 32} (h : x.rotateLeft n = y.rotateLeft n) : x = y := by
  have e : ∀ z : BitVec 32, (z.rotateLeft n).rotateRight n = z := fun z => by
    apply BitVec.eq_of_getLsbD_eq
    intro i hi
    rw [BitVec.getLsbD_rotateRight]
    simp only [BitVec.getLsbD_rotateLeft, Nat.mod_eq_of_lt hn, cond_eq_ite, decide_eq_true_eq]
    split
    · rw [if_neg (by omega)]
      simp only [show n + i < 32 by omega, decide_true, Bool.true_and]
      congr 1
      omega
    · rw [if_pos (by omega)]
      simp only [hi, decide_true, Bool.true_and]
      congr 1
      omega
  rw [← e x, ← e y, h]
theorem rot_inj {n : Nat} (hn : n < 32) {x y : Int} (hx : in32 x) (hy : in32 y) (h : rot32 n x = rot32 n y) : x = y :=
  bv_inj hx hy (rotl_inj hn (by rw [← bv_rot hn hx, ← bv_rot hn hy, h]))
theorem xor_inj {x y z : Int} (hx : in32 x) (hy : in32 y) (h : xor32 x z = xor32 y z) : x = y :=
  bv_inj hx hy (by
    have := congrArg bv h
    rw [bv_xor, bv_xor] at this
    exact (BitVec.xor_left_inj _).1 this)
theorem add_inj {x y z : Int} (hx : in32 x) (hy : in32 y) (h : add32 x z = add32 y z) : x = y := by
  unfold add32 in32 at *
  omega
/-- four numbers -/
structure Four where
  a : Int
  b : Int
  c : Int
  d : Int
def in4 (s : Four) : Prop := in32 s.a ∧ in32 s.b ∧ in32 s.c ∧ in32 s.d
/-- half of a quarter: a = a + b; d turned by m; c = c + d; b turned by n -/
def halfQ (m n : Nat) (s : Four) : Four :=
  ⟨add32 s.a s.b, rot32 n (xor32 s.b (add32 s.c (rot32 m (xor32 s.d (add32 s.a s.b))))), add32 s.c (rot32 m (xor32 s.d (add32 s.a s.b))), rot32 m (xor32 s.d (add32 s.a s.b))⟩
def quarterF (s : Four) : Four := halfQ 8 7 (halfQ 16 12 s)
theorem in_halfQ {m n : Nat} {s : Four} (h : in4 s) : in4 (halfQ m n s) :=
  ⟨in_add32 _ _, in_rot32 _ (in_xor32 h.2.1 (in_add32 _ _)), in_add32 _ _, in_rot32 _ (in_xor32 h.2.2.2 (in_add32 _ _))⟩
theorem in_quarterF {s : Four} (h : in4 s) : in4 (quarterF s) := in_halfQ (in_halfQ h)
theorem halfQ_inj {m n : Nat} (hm : m < 32) (hn : n < 32) {s t : Four} (hs : in4 s) (ht : in4 t) (h : halfQ m n s = halfQ m n t) : s = t := by
  obtain ⟨a, b, c, d⟩ := s
  obtain ⟨a', b', c', d'⟩ := t
  obtain ⟨h1, h2, h3, h4⟩ := hs
  obtain ⟨k1, k2, k3, k4⟩ := ht
  simp only [halfQ, Four.mk.injEq] at *
  obtain ⟨e1, e2, e3, e4⟩ := h
  rw [e4] at e3 e2
  have hc : c = c' := add_inj h3 k3 e3
  subst hc
  have hb : b = b' := xor_inj h2 k2 (rot_inj hn (in_xor32 h2 (in_add32 _ _)) (in_xor32 k2 (in_add32 _ _)) e2)
  subst hb
  have ha : a = a' := add_inj h1 k1 e1
  subst ha
  have hd : d = d' := xor_inj h4 k4 (rot_inj hm (in_xor32 h4 (in_add32 _ _)) (in_xor32 k4 (in_add32 _ _)) e4)
  exact ⟨rfl, rfl, rfl, hd⟩
theorem quarterF_inj {s t : Four} (hs : in4 s) (ht : in4 t) (h : quarterF s = quarterF t) : s = t :=
  halfQ_inj (by decide) (by decide) hs ht (halfQ_inj (by decide) (by decide) (in_halfQ hs) (in_halfQ ht) h)
end Go.Proofs.YtjkeaiihjbcfgaaDoor

/- CB -/
namespace Go.Proofs.YtjkeaiihjbcfgaaDoor
set_option linter.unusedVariables false
set_option maxRecDepth 2000
set_option linter.unusedSimpArgs false
open Go.RowKit
theorem rot_form (x : Int) (hx : in32 x) (m d : Nat) (n : Nat) (hm : 2 ^ n = m) (hd : 2 ^ (32 - n) = d) : bits .or .u32 (x * (m : Int) % 4294967296) (x / (d : Int)) = rot32 n x := by
  obtain ⟨h0, h1⟩ := hx
  obtain ⟨k, rfl⟩ := Int.eq_ofNat_of_zero_le h0
  have e1 : ((k : Int) * (m : Int) % 4294967296) = ((k * m % 4294967296 : Nat) : Int) := by
    rw [← Int.natCast_mul]
    generalize k * m = z
    omega
  have e2 : (k : Int) / (d : Int) = ((k / d : Nat) : Int) := (Int.natCast_ediv k d).symm
  rw [e1, e2, u32_or_nat _ _ (Nat.mod_lt _ (by decide)) (Nat.lt_of_le_of_lt (Nat.div_le_self _ _) (by omega))]
  unfold rot32
  rw [hm, hd, Int.toNat_natCast]

theorem rot16_any (x : Int) (hx : in32 x) (w : World) : Calls Tryd.prog 60 #[.int .u32 x, .int .i64 16] w fun e w' => e = .returned (.int .u32 (rot32 16 x)) ∧ Below w.heap.size w w' := by
  have hf : bits .or .u32 (x * 65536 % 4294967296) (x / 65536) = rot32 16 x := rot_form x hx 65536 65536 16 (by decide) (by decide)
  obtain ⟨h0, h1⟩ := hx
  have e1 : bits .and .u64 16 31 = 16 := by decide
  go_enter Tryd.func60, Tryd.ntmps60
  go_wp2_with (fail)
  exact bodyPost_ret (v := .int .u32 (rot32 16 x)) (by simp [results, Tryd.results60, ← hf]) rfl ⟨rfl, Below.refl _ _⟩
theorem turn16_any (x : Int) (hx : in32 x) (w : World) : Calls Tryd.prog 64 #[.int .u32 x, .int .i64 16] w fun e w' => e = .returned (.int .u32 (rot32 16 x)) ∧ Below w.heap.size w w' := by
  have hf : bits .or .u32 (x * 65536 % 4294967296) (x / 65536) = rot32 16 x := rot_form x hx 65536 65536 16 (by decide) (by decide)
  obtain ⟨h0, h1⟩ := hx
  have e1 : IntKind.i64.wrap (32 - 16) = 16 := by decide
  have e2 : IntKind.i64.wrap 16 = 16 := by decide
  go_enter Tryd.func64, Tryd.ntmps64
  go_wp2_with (fail)
  go_quiet (fail)
  go_wp2_with (fail)
  exact bodyPost_ret (v := .int .u32 (rot32 16 x)) (by simp [results, Tryd.results64, ← hf, IntKind.wrap_u32']) rfl ⟨rfl, (by repeat (first | (with_reducible exact Below.refl _ _) | (with_reducible assumption) | (with_reducible refine below_drewN ?_ _) | (with_reducible refine Below.drew ?_) | (with_reducible refine Below.alloc ?_ ?_ _) | (with_reducible refine Below.setCell ?_ ?_ _) | (with_reducible exact Nat.le_refl _) | exact Nat.le_succ _ | (simp; done) | (simp; omega) | omega | fail))⟩

theorem rot12_any (x : Int) (hx : in32 x) (w : World) : Calls Tryd.prog 60 #[.int .u32 x, .int .i64 12] w fun e w' => e = .returned (.int .u32 (rot32 12 x)) ∧ Below w.heap.size w w' := by
  have hf : bits .or .u32 (x * 4096 % 4294967296) (x / 1048576) = rot32 12 x := rot_form x hx 4096 1048576 12 (by decide) (by decide)
  obtain ⟨h0, h1⟩ := hx
  have e1 : bits .and .u64 12 31 = 12 := by decide
  go_enter Tryd.func60, Tryd.ntmps60
  go_wp2_with (fail)
  exact bodyPost_ret (v := .int .u32 (rot32 12 x)) (by simp [results, Tryd.results60, ← hf]) rfl ⟨rfl, Below.refl _ _⟩
theorem turn12_any (x : Int) (hx : in32 x) (w : World) : Calls Tryd.prog 64 #[.int .u32 x, .int .i64 12] w fun e w' => e = .returned (.int .u32 (rot32 12 x)) ∧ Below w.heap.size w w' := by
  have hf : bits .or .u32 (x * 4096 % 4294967296) (x / 1048576) = rot32 12 x := rot_form x hx 4096 1048576 12 (by decide) (by decide)
  obtain ⟨h0, h1⟩ := hx
  have e1 : IntKind.i64.wrap (32 - 12) = 20 := by decide
  have e2 : IntKind.i64.wrap 20 = 20 := by decide
  go_enter Tryd.func64, Tryd.ntmps64
  go_wp2_with (fail)
  go_quiet (fail)
  go_wp2_with (fail)
  exact bodyPost_ret (v := .int .u32 (rot32 12 x)) (by simp [results, Tryd.results64, ← hf, IntKind.wrap_u32']) rfl ⟨rfl, (by repeat (first | (with_reducible exact Below.refl _ _) | (with_reducible assumption) | (with_reducible refine below_drewN ?_ _) | (with_reducible refine Below.drew ?_) | (with_reducible refine Below.alloc ?_ ?_ _) | (with_reducible refine Below.setCell ?_ ?_ _) | (with_reducible exact Nat.le_refl _) | exact Nat.le_succ _ | (simp; done) | (simp; omega) | omega | fail))⟩

theorem rot8_any (x : Int) (hx : in32 x) (w : World) : Calls Tryd.prog 60 #[.int .u32 x, .int .i64 8] w fun e w' => e = .returned (.int .u32 (rot32 8 x)) ∧ Below w.heap.size w w' := by
  have hf : bits .or .u32 (x * 256 % 4294967296) (x / 16777216) = rot32 8 x := rot_form x hx 256 16777216 8 (by decide) (by decide)
  obtain ⟨h0, h1⟩ := hx
  have e1 : bits .and .u64 8 31 = 8 := by decide
  go_enter Tryd.func60, Tryd.ntmps60
  go_wp2_with (fail)
  exact bodyPost_ret (v := .int .u32 (rot32 8 x)) (by simp [results, Tryd.results60, ← hf]) rfl ⟨rfl, Below.refl _ _⟩
theorem turn8_any (x : Int) (hx : in32 x) (w : World) : Calls Tryd.prog 64 #[.int .u32 x, .int .i64 8] w fun e w' => e = .returned (.int .u32 (rot32 8 x)) ∧ Below w.heap.size w w' := by
  have hf : bits .or .u32 (x * 256 % 4294967296) (x / 16777216) = rot32 8 x := rot_form x hx 256 16777216 8 (by decide) (by decide)
  obtain ⟨h0, h1⟩ := hx
  have e1 : IntKind.i64.wrap (32 - 8) = 24 := by decide
  have e2 : IntKind.i64.wrap 24 = 24 := by decide
  go_enter Tryd.func64, Tryd.ntmps64
  go_wp2_with (fail)
  go_quiet (fail)
  go_wp2_with (fail)
  exact bodyPost_ret (v := .int .u32 (rot32 8 x)) (by simp [results, Tryd.results64, ← hf, IntKind.wrap_u32']) rfl ⟨rfl, (by repeat (first | (with_reducible exact Below.refl _ _) | (with_reducible assumption) | (with_reducible refine below_drewN ?_ _) | (with_reducible refine Below.drew ?_) | (with_reducible refine Below.alloc ?_ ?_ _) | (with_reducible refine Below.setCell ?_ ?_ _) | (with_reducible exact Nat.le_refl _) | exact Nat.le_succ _ | (simp; done) | (simp; omega) | omega | fail))⟩

theorem rot7_any (x : Int) (hx : in32 x) (w : World) : Calls Tryd.prog 60 #[.int .u32 x, .int .i64 7] w fun e w' => e = .returned (.int .u32 (rot32 7 x)) ∧ Below w.heap.size w w' := by
  have hf : bits .or .u32 (x * 128 % 4294967296) (x / 33554432) = rot32 7 x := rot_form x hx 128 33554432 7 (by decide) (by decide)
  obtain ⟨h0, h1⟩ := hx
  have e1 : bits .and .u64 7 31 = 7 := by decide
  go_enter Tryd.func60, Tryd.ntmps60
  go_wp2_with (fail)
  exact bodyPost_ret (v := .int .u32 (rot32 7 x)) (by simp [results, Tryd.results60, ← hf]) rfl ⟨rfl, Below.refl _ _⟩
theorem turn7_any (x : Int) (hx : in32 x) (w : World) : Calls Tryd.prog 64 #[.int .u32 x, .int .i64 7] w fun e w' => e = .returned (.int .u32 (rot32 7 x)) ∧ Below w.heap.size w w' := by
  have hf : bits .or .u32 (x * 128 % 4294967296) (x / 33554432) = rot32 7 x := rot_form x hx 128 33554432 7 (by decide) (by decide)
  obtain ⟨h0, h1⟩ := hx
  have e1 : IntKind.i64.wrap (32 - 7) = 25 := by decide
  have e2 : IntKind.i64.wrap 25 = 25 := by decide
  go_enter Tryd.func64, Tryd.ntmps64
  go_wp2_with (fail)
  go_quiet (fail)
  go_wp2_with (fail)
  exact bodyPost_ret (v := .int .u32 (rot32 7 x)) (by simp [results, Tryd.results64, ← hf, IntKind.wrap_u32']) rfl ⟨rfl, (by repeat (first | (with_reducible exact Below.refl _ _) | (with_reducible assumption) | (with_reducible refine below_drewN ?_ _) | (with_reducible refine Below.drew ?_) | (with_reducible refine Below.alloc ?_ ?_ _) | (with_reducible refine Below.setCell ?_ ?_ _) | (with_reducible exact Nat.le_refl _) | exact Nat.le_succ _ | (simp; done) | (simp; omega) | omega | fail))⟩
end Go.Proofs.YtjkeaiihjbcfgaaDoor

/- CC -/
namespace Go.Proofs.YtjkeaiihjbcfgaaDoor
set_option linter.unusedVariables false
set_option maxRecDepth 2000
set_option linter.unusedSimpArgs false
open Go.RowKit

theorem Quarter_any (a b c d : Int) (ha : in32 a) (hb : in32 b) (hc : in32 c) (hd : in32 d) (w : World) : Calls Tryd.prog 48 #[(.agg #[.int .u32 a, .int .u32 b, .int .u32 c, .int .u32 d])] w fun e w' => e = .returned (.agg #[.int .u32 (quarterF ⟨a, b, c, d⟩).a, .int .u32 (quarterF ⟨a, b, c, d⟩).b, .int .u32 (quarterF ⟨a, b, c, d⟩).c, .int .u32 (quarterF ⟨a, b, c, d⟩).d]) ∧ Below w.heap.size w w' := by
  have Ia := Lib.hid ha; have Ib := Lib.hid hb; have Ic := Lib.hid hc; have Id := Lib.hid hd
  clear ha hb hc hd
  have Ia1 : Hid (in32 (add32 a b)) := Lib.hid (in_add32 _ _)
  obtain ⟨a1, ea1⟩ : ∃ z, add32 a b = z := ⟨_, rfl⟩
  rw [ea1] at Ia1
  have fa1 : (a + b) % 4294967296 = a1 := ea1
  have ga1 : IntKind.u32.wrap (a + b) = a1 := (IntKind.wrap_u32' _).trans ea1
  have Ix1 : Hid (in32 (xor32 d a1)) := Lib.hid (in_xor32 Id.out Ia1.out)
  obtain ⟨x1, ex1⟩ : ∃ z, xor32 d a1 = z := ⟨_, rfl⟩
  rw [ex1] at Ix1
  have fx1 : bits .xor .u32 d a1 = x1 := (u32_xor _ _ Id.out.1 Id.out.2 Ia1.out.1 Ia1.out.2).trans ex1
  have Id1 : Hid (in32 (rot32 16 x1)) := Lib.hid (in_rot32 _ Ix1.out)
  obtain ⟨d1, ed1⟩ : ∃ z, rot32 16 x1 = z := ⟨_, rfl⟩
  rw [ed1] at Id1
  have Ic1 : Hid (in32 (add32 c d1)) := Lib.hid (in_add32 _ _)
  obtain ⟨c1, ec1⟩ : ∃ z, add32 c d1 = z := ⟨_, rfl⟩
  rw [ec1] at Ic1
  have fc1 : (c + d1) % 4294967296 = c1 := ec1
  have gc1 : IntKind.u32.wrap (c + d1) = c1 := (IntKind.wrap_u32' _).trans ec1
  have Iy1 : Hid (in32 (xor32 b c1)) := Lib.hid (in_xor32 Ib.out Ic1.out)
  obtain ⟨y1, ey1⟩ : ∃ z, xor32 b c1 = z := ⟨_, rfl⟩
  rw [ey1] at Iy1
  have fy1 : bits .xor .u32 b c1 = y1 := (u32_xor _ _ Ib.out.1 Ib.out.2 Ic1.out.1 Ic1.out.2).trans ey1
  have Ib1 : Hid (in32 (rot32 12 y1)) := Lib.hid (in_rot32 _ Iy1.out)
  obtain ⟨b1, eb1⟩ : ∃ z, rot32 12 y1 = z := ⟨_, rfl⟩
  rw [eb1] at Ib1
  have Ia2 : Hid (in32 (add32 a1 b1)) := Lib.hid (in_add32 _ _)
  obtain ⟨a2, ea2⟩ : ∃ z, add32 a1 b1 = z := ⟨_, rfl⟩
  rw [ea2] at Ia2
  have fa2 : (a1 + b1) % 4294967296 = a2 := ea2
  have ga2 : IntKind.u32.wrap (a1 + b1) = a2 := (IntKind.wrap_u32' _).trans ea2
  have Ix2 : Hid (in32 (xor32 d1 a2)) := Lib.hid (in_xor32 Id1.out Ia2.out)
  obtain ⟨x2, ex2⟩ : ∃ z, xor32 d1 a2 = z := ⟨_, rfl⟩
  rw [ex2] at Ix2
  have fx2 : bits .xor .u32 d1 a2 = x2 := (u32_xor _ _ Id1.out.1 Id1.out.2 Ia2.out.1 Ia2.out.2).trans ex2
  have Id2 : Hid (in32 (rot32 8 x2)) := Lib.hid (in_rot32 _ Ix2.out)
  obtain ⟨d2, ed2⟩ : ∃ z, rot32 8 x2 = z := ⟨_, rfl⟩
  rw [ed2] at Id2
  have Ic2 : Hid (in32 (add32 c1 d2)) := Lib.hid (in_add32 _ _)
  obtain ⟨c2, ec2⟩ : ∃ z, add32 c1 d2 = z := ⟨_, rfl⟩
  rw [ec2] at Ic2
  have fc2 : (c1 + d2) % 4294967296 = c2 := ec2
  have gc2 : IntKind.u32.wrap (c1 + d2) = c2 := (IntKind.wrap_u32' _).trans ec2
  have Iy2 : Hid (in32 (xor32 b1 c2)) := Lib.hid (in_xor32 Ib1.out Ic2.out)
  obtain ⟨y2, ey2⟩ : ∃ z, xor32 b1 c2 = z := ⟨_, rfl⟩
  rw [ey2] at Iy2
  have fy2 : bits .xor .u32 b1 c2 = y2 := (u32_xor _ _ Ib1.out.1 Ib1.out.2 Ic2.out.1 Ic2.out.2).trans ey2
  have Ib2 : Hid (in32 (rot32 7 y2)) := Lib.hid (in_rot32 _ Iy2.out)
  obtain ⟨b2, eb2⟩ : ∃ z, rot32 7 y2 = z := ⟨_, rfl⟩
  rw [eb2] at Ib2
  have HR : Hid (quarterF ⟨a, b, c, d⟩ = ⟨a2, b2, c2, d2⟩) := Lib.hid (by
    unfold quarterF halfQ
    simp only [ea1, ex1, ed1, ec1, ey1, eb1, ea2, ex2, ed2, ec2, ey2, eb2])
  clear ea1 ex1 ec1 ey1 ea2 ex2 ec2 ey2
  rw [HR.out]
  go_enter Tryd.func48, Tryd.ntmps48
  go_upto_region 1 with fail
  obtain ⟨W0, hW⟩ : ∃ W0, W0 = ((w.alloc (.cells #[.int .u32 a, .int .u32 b, .int .u32 c, .int .u32 d] 72)).alloc (.cells #[.int .u32 0, .int .u32 0, .int .u32 0, .int .u32 0] 72)) := ⟨_, rfl⟩
  have hB0 : Below w.heap.size w W0 := hW ▸ (Below.al (Below.al (Below.refl _ _)))
  have HS : Hid (Own w.heap.size [.int .u32 a, .int .u32 b, .int .u32 c, .int .u32 d] W0) := Lib.hid (hW ▸ (Own.newAt (by simp)).alloc)
  have HR4 : Hid (Own (w.heap.size + 1) [.int .u32 0, .int .u32 0, .int .u32 0, .int .u32 0] W0) := Lib.hid (hW ▸ (Own.newAt (by simp)))
  rw [← hW]
  clear hW
  obtain ⟨R, eR⟩ : ∃ X, X = (w.heap.size + 1) := ⟨_, rfl⟩
  rw [← eR] at HR4 ⊢
  have Rw : w.heap.size ≤ R := by omega
  obtain ⟨S, eS⟩ : ∃ X, X = w.heap.size := ⟨_, rfl⟩
  rw [← eS] at HS ⊢
  have Sw : w.heap.size ≤ S := by omega
  have nSR : S ≠ R := by omega
  have nRS : R ≠ S := by omega
  clear eS eR
  have oS := HS.out
  have S0 := oS.at 0 _ rfl
  have S1 := oS.at 1 _ rfl
  have S2 := oS.at 2 _ rfl
  have S3 := oS.at 3 _ rfl
  have Sl := oS.lt
  clear oS
  go_quiet (fail)
  have hBd : Below W0.heap.size W0 (W0.drewN nq) := below_drewN (Below.refl _ _) _
  clear S0 S1 S2 S3 Sl
  have HR5 := Lib.hid (HR4.out.later hBd)
  have hB1 := Below.go hB0 hBd
  generalize W0.drewN nq = w0 at *
  clear hBd hB0 HR4 HS
  go_wp2_with (fail)
  go_at_call 60
  refine (rot16_any x1 Ix1.out _).mono ?_
  rintro e w1 ⟨rfl, hb⟩
  rw [ed1]
  have HR6 := Lib.hid (HR5.out.later hb)
  have hB2 := Below.go hB1 hb
  clear hB1 HR5 hb
  have hB1 := hB2
  have HR5 := HR6
  clear hB2 HR6
  go_wp2_with (fail)
  go_at_call 60
  refine (rot12_any y1 Iy1.out _).mono ?_
  rintro e w2 ⟨rfl, hb⟩
  rw [eb1]
  have HR6 := Lib.hid (HR5.out.later hb)
  have hB2 := Below.go hB1 hb
  clear hB1 HR5 hb
  have hB1 := hB2
  have HR5 := HR6
  clear hB2 HR6
  go_wp2_with (fail)
  go_at_call 60
  refine (rot8_any x2 Ix2.out _).mono ?_
  rintro e w3 ⟨rfl, hb⟩
  rw [ed2]
  have HR6 := Lib.hid (HR5.out.later hb)
  have hB2 := Below.go hB1 hb
  clear hB1 HR5 hb
  have hB1 := hB2
  have HR5 := HR6
  clear hB2 HR6
  go_wp2_with (fail)
  go_at_call 60
  refine (rot7_any y2 Iy2.out _).mono ?_
  rintro e w4 ⟨rfl, hb⟩
  rw [eb2]
  have HR6 := Lib.hid (HR5.out.later hb)
  have hB2 := Below.go hB1 hb
  clear hB1 HR5 hb
  have hB1 := hB2
  have HR5 := HR6
  clear hB2 HR6
  have oR := HR5.out
  have R0 := oR.at 0 _ rfl
  have Rf0 := oR.ok 0 (by simp)
  have R1 := oR.at 1 _ rfl
  have Rf1 := oR.ok 1 (by simp)
  have R2 := oR.at 2 _ rfl
  have Rf2 := oR.ok 2 (by simp)
  have R3 := oR.at 3 _ rfl
  have Rf3 := oR.ok 3 (by simp)
  have Rl := oR.lt
  clear oR
  go_wp2_with (fail)
  exact bodyPost_ret (v := (.agg #[.int .u32 a2, .int .u32 b2, .int .u32 c2, .int .u32 d2])) (by simp [results, Tryd.results48, go_sem, R0, R1, R2, R3, Rf0, Rf1, Rf2, Rf3]) rfl ⟨rfl, (by repeat (first | (with_reducible exact Below.refl _ _) | (with_reducible assumption) | (with_reducible refine below_drewN ?_ _) | (with_reducible refine Below.drew ?_) | (with_reducible refine Below.alloc ?_ ?_ _) | (with_reducible refine Below.setCell ?_ ?_ _) | (with_reducible exact Nat.le_refl _) | exact Nat.le_succ _ | (simp; done) | (simp; omega) | omega | fail))⟩

theorem RQuarter_any (a b c d : Int) (ha : in32 a) (hb : in32 b) (hc : in32 c) (hd : in32 d) (w : World) : Calls Tryd.prog 58 #[(.agg #[.int .u32 a, .int .u32 b, .int .u32 c, .int .u32 d])] w fun e w' => e = .returned (.agg #[.int .u32 (quarterF ⟨a, b, c, d⟩).a, .int .u32 (quarterF ⟨a, b, c, d⟩).b, .int .u32 (quarterF ⟨a, b, c, d⟩).c, .int .u32 (quarterF ⟨a, b, c, d⟩).d]) ∧ Below w.heap.size w w' := by
  have Ia := Lib.hid ha; have Ib := Lib.hid hb; have Ic := Lib.hid hc; have Id := Lib.hid hd
  clear ha hb hc hd
  have Ia1 : Hid (in32 (add32 a b)) := Lib.hid (in_add32 _ _)
  obtain ⟨a1, ea1⟩ : ∃ z, add32 a b = z := ⟨_, rfl⟩
  rw [ea1] at Ia1
  have fa1 : (a + b) % 4294967296 = a1 := ea1
  have ga1 : IntKind.u32.wrap (a + b) = a1 := (IntKind.wrap_u32' _).trans ea1
  have Ix1 : Hid (in32 (xor32 d a1)) := Lib.hid (in_xor32 Id.out Ia1.out)
  obtain ⟨x1, ex1⟩ : ∃ z, xor32 d a1 = z := ⟨_, rfl⟩
  rw [ex1] at Ix1
  have fx1 : bits .xor .u32 d a1 = x1 := (u32_xor _ _ Id.out.1 Id.out.2 Ia1.out.1 Ia1.out.2).trans ex1
  have Id1 : Hid (in32 (rot32 16 x1)) := Lib.hid (in_rot32 _ Ix1.out)
  obtain ⟨d1, ed1⟩ : ∃ z, rot32 16 x1 = z := ⟨_, rfl⟩
  rw [ed1] at Id1
  have Ic1 : Hid (in32 (add32 c d1)) := Lib.hid (in_add32 _ _)
  obtain ⟨c1, ec1⟩ : ∃ z, add32 c d1 = z := ⟨_, rfl⟩
  rw [ec1] at Ic1
  have fc1 : (c + d1) % 4294967296 = c1 := ec1
  have gc1 : IntKind.u32.wrap (c + d1) = c1 := (IntKind.wrap_u32' _).trans ec1
  have Iy1 : Hid (in32 (xor32 b c1)) := Lib.hid (in_xor32 Ib.out Ic1.out)
  obtain ⟨y1, ey1⟩ : ∃ z, xor32 b c1 = z := ⟨_, rfl⟩
  rw [ey1] at Iy1
  have fy1 : bits .xor .u32 b c1 = y1 := (u32_xor _ _ Ib.out.1 Ib.out.2 Ic1.out.1 Ic1.out.2).trans ey1
  have Ib1 : Hid (in32 (rot32 12 y1)) := Lib.hid (in_rot32 _ Iy1.out)
  obtain ⟨b1, eb1⟩ : ∃ z, rot32 12 y1 = z := ⟨_, rfl⟩
  rw [eb1] at Ib1
  have Ia2 : Hid (in32 (add32 a1 b1)) := Lib.hid (in_add32 _ _)
  obtain ⟨a2, ea2⟩ : ∃ z, add32 a1 b1 = z := ⟨_, rfl⟩
  rw [ea2] at Ia2
  have fa2 : (a1 + b1) % 4294967296 = a2 := ea2
  have ga2 : IntKind.u32.wrap (a1 + b1) = a2 := (IntKind.wrap_u32' _).trans ea2
  have Ix2 : Hid (in32 (xor32 d1 a2)) := Lib.hid (in_xor32 Id1.out Ia2.out)
  obtain ⟨x2, ex2⟩ : ∃ z, xor32 d1 a2 = z := ⟨_, rfl⟩
  rw [ex2] at Ix2
  have fx2 : bits .xor .u32 d1 a2 = x2 := (u32_xor _ _ Id1.out.1 Id1.out.2 Ia2.out.1 Ia2.out.2).trans ex2
  have Id2 : Hid (in32 (rot32 8 x2)) := Lib.hid (in_rot32 _ Ix2.out)
  obtain ⟨d2, ed2⟩ : ∃ z, rot32 8 x2 = z := ⟨_, rfl⟩
  rw [ed2] at Id2
  have Ic2 : Hid (in32 (add32 c1 d2)) := Lib.hid (in_add32 _ _)
  obtain ⟨c2, ec2⟩ : ∃ z, add32 c1 d2 = z := ⟨_, rfl⟩
  rw [ec2] at Ic2
  have fc2 : (c1 + d2) % 4294967296 = c2 := ec2
  have gc2 : IntKind.u32.wrap (c1 + d2) = c2 := (IntKind.wrap_u32' _).trans ec2
  have Iy2 : Hid (in32 (xor32 b1 c2)) := Lib.hid (in_xor32 Ib1.out Ic2.out)
  obtain ⟨y2, ey2⟩ : ∃ z, xor32 b1 c2 = z := ⟨_, rfl⟩
  rw [ey2] at Iy2
  have fy2 : bits .xor .u32 b1 c2 = y2 := (u32_xor _ _ Ib1.out.1 Ib1.out.2 Ic2.out.1 Ic2.out.2).trans ey2
  have Ib2 : Hid (in32 (rot32 7 y2)) := Lib.hid (in_rot32 _ Iy2.out)
  obtain ⟨b2, eb2⟩ : ∃ z, rot32 7 y2 = z := ⟨_, rfl⟩
  rw [eb2] at Ib2
  have HR : Hid (quarterF ⟨a, b, c, d⟩ = ⟨a2, b2, c2, d2⟩) := Lib.hid (by
    unfold quarterF halfQ
    simp only [ea1, ex1, ed1, ec1, ey1, eb1, ea2, ex2, ed2, ec2, ey2, eb2])
  clear ea1 ex1 ec1 ey1 ea2 ex2 ec2 ey2
  rw [HR.out]
  go_enter Tryd.func58, Tryd.ntmps58
  go_upto_region 1 with fail
  obtain ⟨w0, hW⟩ : ∃ w0, w0 = ((w.alloc (.cells #[.int .u32 a, .int .u32 b, .int .u32 c, .int .u32 d] 72)).alloc (.cells #[.int .u32 0, .int .u32 0, .int .u32 0, .int .u32 0] 72)) := ⟨_, rfl⟩
  have hB0 : Below w.heap.size w w0 := hW ▸ (Below.al (Below.al (Below.refl _ _)))
  have HS : Hid (Own w.heap.size [.int .u32 a, .int .u32 b, .int .u32 c, .int .u32 d] w0) := Lib.hid (hW ▸ (Own.newAt (by simp)).alloc)
  have HR4 : Hid (Own (w.heap.size + 1) [.int .u32 0, .int .u32 0, .int .u32 0, .int .u32 0] w0) := Lib.hid (hW ▸ (Own.newAt (by simp)))
  rw [← hW]
  clear hW
  obtain ⟨R, eR⟩ : ∃ X, X = (w.heap.size + 1) := ⟨_, rfl⟩
  rw [← eR] at HR4 ⊢
  have Rw : w.heap.size ≤ R := by omega
  obtain ⟨S, eS⟩ : ∃ X, X = w.heap.size := ⟨_, rfl⟩
  rw [← eS] at HS ⊢
  have Sw : w.heap.size ≤ S := by omega
  have nSR : S ≠ R := by omega
  have nRS : R ≠ S := by omega
  clear eS eR
  have oS := HS.out
  have S0 := oS.at 0 _ rfl
  have Sf0 := oS.ok 0 (by simp)
  have S1 := oS.at 1 _ rfl
  have Sf1 := oS.ok 1 (by simp)
  have S2 := oS.at 2 _ rfl
  have Sf2 := oS.ok 2 (by simp)
  have S3 := oS.at 3 _ rfl
  have Sf3 := oS.ok 3 (by simp)
  have Sl := oS.lt
  clear oS
  go_wp2_with (fail)
  go_at_call 64
  refine (turn16_any x1 Ix1.out _).mono ?_
  rintro e w1 ⟨rfl, hb⟩
  rw [ed1]
  have HS2 : Hid (Own S [.int .u32 a1, .int .u32 b, .int .u32 c, .int .u32 d] w1) := Lib.hid (Own.later (show Own S [.int .u32 a1, .int .u32 b, .int .u32 c, .int .u32 d] _ from Own.part (o := 0) (vs := [.int .u32 a1]) HS.out (by simp)) hb)
  have HR6 : Hid (Own R [.int .u32 0, .int .u32 0, .int .u32 0, .int .u32 0] w1) := Lib.hid (Own.later (Own.far (c := S) (o := 0) (vs := [.int .u32 a1]) HR4.out nRS) hb)
  have hB1 : Below w.heap.size w w1 := Below.go (Below.setCells hB0 Sw [.int .u32 a1] 0) hb
  clear S0 Sf0 S1 Sf1 S2 Sf2 S3 Sf3 Sl HS HR4 hB0 hb
  have HS := HS2
  have HR4 := HR6
  have hB0 := hB1
  clear HS2 HR6 hB1
  have oS := HS.out
  have S0 := oS.at 0 _ rfl
  have Sf0 := oS.ok 0 (by simp)
  have S1 := oS.at 1 _ rfl
  have Sf1 := oS.ok 1 (by simp)
  have S2 := oS.at 2 _ rfl
  have Sf2 := oS.ok 2 (by simp)
  have S3 := oS.at 3 _ rfl
  have Sf3 := oS.ok 3 (by simp)
  have Sl := oS.lt
  clear oS
  go_wp2_with (fail)
  go_at_call 64
  refine (turn12_any y1 Iy1.out _).mono ?_
  rintro e w2 ⟨rfl, hb⟩
  rw [eb1]
  have HS2 : Hid (Own S [.int .u32 a1, .int .u32 b, .int .u32 c1, .int .u32 d1] w2) := Lib.hid (Own.later (show Own S [.int .u32 a1, .int .u32 b, .int .u32 c1, .int .u32 d1] _ from Own.part (o := 2) (vs := [.int .u32 c1]) (show Own S [.int .u32 a1, .int .u32 b, .int .u32 c, .int .u32 d1] _ from Own.part (o := 3) (vs := [.int .u32 d1]) HS.out (by simp)) (by simp)) hb)
  have HR6 : Hid (Own R [.int .u32 0, .int .u32 0, .int .u32 0, .int .u32 0] w2) := Lib.hid (Own.later (Own.far (c := S) (o := 2) (vs := [.int .u32 c1]) (Own.far (c := S) (o := 3) (vs := [.int .u32 d1]) HR4.out nRS) nRS) hb)
  have hB1 : Below w.heap.size w w2 := Below.go (Below.setCells (Below.setCells hB0 Sw [.int .u32 d1] 3) Sw [.int .u32 c1] 2) hb
  clear S0 Sf0 S1 Sf1 S2 Sf2 S3 Sf3 Sl HS HR4 hB0 hb
  have HS := HS2
  have HR4 := HR6
  have hB0 := hB1
  clear HS2 HR6 hB1
  have oS := HS.out
  have S0 := oS.at 0 _ rfl
  have Sf0 := oS.ok 0 (by simp)
  have S1 := oS.at 1 _ rfl
  have Sf1 := oS.ok 1 (by simp)
  have S2 := oS.at 2 _ rfl
  have Sf2 := oS.ok 2 (by simp)
  have S3 := oS.at 3 _ rfl
  have Sf3 := oS.ok 3 (by simp)
  have Sl := oS.lt
  clear oS
  go_wp2_with (fail)
  go_at_call 64
  refine (turn8_any x2 Ix2.out _).mono ?_
  rintro e w3 ⟨rfl, hb⟩
  rw [ed2]
  have HS2 : Hid (Own S [.int .u32 a2, .int .u32 b1, .int .u32 c1, .int .u32 d1] w3) := Lib.hid (Own.later (show Own S [.int .u32 a2, .int .u32 b1, .int .u32 c1, .int .u32 d1] _ from Own.part (o := 0) (vs := [.int .u32 a2]) (show Own S [.int .u32 a1, .int .u32 b1, .int .u32 c1, .int .u32 d1] _ from Own.part (o := 1) (vs := [.int .u32 b1]) HS.out (by simp)) (by simp)) hb)
  have HR6 : Hid (Own R [.int .u32 0, .int .u32 0, .int .u32 0, .int .u32 0] w3) := Lib.hid (Own.later (Own.far (c := S) (o := 0) (vs := [.int .u32 a2]) (Own.far (c := S) (o := 1) (vs := [.int .u32 b1]) HR4.out nRS) nRS) hb)
  have hB1 : Below w.heap.size w w3 := Below.go (Below.setCells (Below.setCells hB0 Sw [.int .u32 b1] 1) Sw [.int .u32 a2] 0) hb
  clear S0 Sf0 S1 Sf1 S2 Sf2 S3 Sf3 Sl HS HR4 hB0 hb
  have HS := HS2
  have HR4 := HR6
  have hB0 := hB1
  clear HS2 HR6 hB1
  have oS := HS.out
  have S0 := oS.at 0 _ rfl
  have Sf0 := oS.ok 0 (by simp)
  have S1 := oS.at 1 _ rfl
  have Sf1 := oS.ok 1 (by simp)
  have S2 := oS.at 2 _ rfl
  have Sf2 := oS.ok 2 (by simp)
  have S3 := oS.at 3 _ rfl
  have Sf3 := oS.ok 3 (by simp)
  have Sl := oS.lt
  clear oS
  go_wp2_with (fail)
  go_at_call 64
  refine (turn7_any y2 Iy2.out _).mono ?_
  rintro e w4 ⟨rfl, hb⟩
  rw [eb2]
  have HS2 : Hid (Own S [.int .u32 a2, .int .u32 b1, .int .u32 c2, .int .u32 d2] w4) := Lib.hid (Own.later (show Own S [.int .u32 a2, .int .u32 b1, .int .u32 c2, .int .u32 d2] _ from Own.part (o := 2) (vs := [.int .u32 c2]) (show Own S [.int .u32 a2, .int .u32 b1, .int .u32 c1, .int .u32 d2] _ from Own.part (o := 3) (vs := [.int .u32 d2]) HS.out (by simp)) (by simp)) hb)
  have HR6 : Hid (Own R [.int .u32 0, .int .u32 0, .int .u32 0, .int .u32 0] w4) := Lib.hid (Own.later (Own.far (c := S) (o := 2) (vs := [.int .u32 c2]) (Own.far (c := S) (o := 3) (vs := [.int .u32 d2]) HR4.out nRS) nRS) hb)
  have hB1 : Below w.heap.size w w4 := Below.go (Below.setCells (Below.setCells hB0 Sw [.int .u32 d2] 3) Sw [.int .u32 c2] 2) hb
  clear S0 Sf0 S1 Sf1 S2 Sf2 S3 Sf3 Sl HS HR4 hB0 hb
  have HS := HS2
  have HR4 := HR6
  have hB0 := hB1
  clear HS2 HR6 hB1
  have oS := HS.out
  have S0 := oS.at 0 _ rfl
  have Sf0 := oS.ok 0 (by simp)
  have S1 := oS.at 1 _ rfl
  have Sf1 := oS.ok 1 (by simp)
  have S2 := oS.at 2 _ rfl
  have Sf2 := oS.ok 2 (by simp)
  have S3 := oS.at 3 _ rfl
  have Sf3 := oS.ok 3 (by simp)
  have Sl := oS.lt
  clear oS
  have oR := HR4.out
  have R0 := oR.at 0 _ rfl
  have Rf0 := oR.ok 0 (by simp)
  have R1 := oR.at 1 _ rfl
  have Rf1 := oR.ok 1 (by simp)
  have R2 := oR.at 2 _ rfl
  have Rf2 := oR.ok 2 (by simp)
  have R3 := oR.at 3 _ rfl
  have Rf3 := oR.ok 3 (by simp)
  have Rl := oR.lt
  clear oR
  go_wp2_with (fail)
  exact bodyPost_ret (v := (.agg #[.int .u32 a2, .int .u32 b2, .int .u32 c2, .int .u32 d2])) (by simp [results, Tryd.results58, go_sem, R0, R1, R2, R3, Rf0, Rf1, Rf2, Rf3, S0, S1, S2, S3, Sf0, Sf1, Sf2, Sf3]) rfl ⟨rfl, (by repeat (first | (with_reducible exact Below.refl _ _) | (with_reducible assumption) | (with_reducible refine below_drewN ?_ _) | (with_reducible refine Below.drew ?_) | (with_reducible refine Below.alloc ?_ ?_ _) | (with_reducible refine Below.setCell ?_ ?_ _) | (with_reducible exact Nat.le_refl _) | exact Nat.le_succ _ | (simp; done) | (simp; omega) | omega | fail))⟩
end Go.Proofs.YtjkeaiihjbcfgaaDoor

/- CD -/
namespace Go.Proofs.YtjkeaiihjbcfgaaDoor
set_option linter.unusedVariables false
set_option maxRecDepth 2000
set_option linter.unusedSimpArgs false
open Go.RowKit
/-- the cells of an array of n numbers of kind k -/
def nums (k : IntKind) (f : Nat → Int) (n : Nat) : List Value := (List.range n).map fun i => .int k (f i)
theorem nums_length (k : IntKind) (f : Nat → Int) (n : Nat) : (nums k f n).length = n := by simp [nums]
theorem nums_at (k : IntKind) (f : Nat → Int) {n i : Nat} (h : i < n) : (nums k f n)[i]? = some (.int k (f i)) := by simp [nums, h]
theorem nums_out (k : IntKind) (f : Nat → Int) {n i : Nat} (h : n ≤ i) : (nums k f n)[i]? = none := by simp [nums, h]
theorem nums_one (k : IntKind) (f : Nat → Int) (n : Nat) : ∀ v ∈ nums k f n, v.oneCell' = true := by
  intro v hv
  simp [nums] at hv
  obtain ⟨i, _, rfl⟩ := hv
  rfl
theorem nums_congr (k : IntKind) {f g : Nat → Int} {n : Nat} (h : ∀ i, i < n → f i = g i) : nums k f n = nums k g n := by
  unfold nums
  apply List.map_congr_left
  intro i hi
  rw [h i (by simpa using hi)]
/-- one number turned -/
def at1 (f : Nat → Int) (i : Nat) (v : Int) : Nat → Int := fun j => if j = i then v else f j
theorem nums_set (k : IntKind) (f : Nat → Int) {n i : Nat} (v : Int) (h : i < n) : over (nums k f n) i [.int k v] = nums k (at1 f i v) n := by
  apply List.ext_getElem?
  intro j
  have hl : (nums k f n).length = n := nums_length k f n
  unfold over
  by_cases hj : j < n
  · rw [nums_at _ _ hj]
    unfold at1
    by_cases h1 : j < i
    · rw [List.append_assoc, List.getElem?_append_left (by simp [hl]; omega), List.getElem?_take_of_lt h1, nums_at _ _ hj, if_neg (by omega)]
    · by_cases h2 : j = i
      · subst h2
        rw [List.append_assoc, List.getElem?_append_right (by simp [hl]; omega)]
        simp [hl, Nat.min_eq_left (Nat.le_of_lt hj)]
      · rw [List.getElem?_append_right (by simp [hl]; omega), List.getElem?_drop, if_neg h2]
        have : i + [Value.int k v].length + (j - ((nums k f n).take i ++ [Value.int k v]).length) = j := by simp [hl]; omega
        rw [this, nums_at _ _ hj]
  · rw [nums_out _ _ (by omega)]
    simp [hl]
    omega
theorem own_set {k : IntKind} {f : Nat → Int} {n i b : Nat} {v : Int} {W : World} (h : Own b (nums k f n) W) (hi : i < n) : Own b (nums k (at1 f i v) n) (W.setCells b i [.int k v]) := by
  have := Own.part (o := i) (vs := [.int k v]) h (by simp [nums_length]; omega)
  rwa [nums_set k f v hi] at this

theorem run_part1 {P : Program} {e n i : Nat} {k : IntKind} {f : Nat → Int} {w : World} (hi : i < n) (hs : (sizeOf e).run P w = .ok 1 w) (ha : (isAgg e).run P w = .ok false w) :
    (part e (nums k f n).toArray i).run P w = .ok (.int k (f i)) w := by
  unfold part
  simp [hs, ha, nums_at k f hi]
theorem eq_loop {P : Program} {w : World} (F : Nat → Sem (ForInStep (Option Bool × Unit))) : ∀ (m a : Nat), (∀ i, a ≤ i → i < a + m → (F i).run P w = .ok (.yield (none, ())) w) →
    (forIn (List.range' a m) ((none, ()) : Option Bool × Unit) fun i _ => F i).run P w = .ok (none, ()) w
  | 0, a, _ => by simp
  | m + 1, a, h => by
    rw [List.range'_succ, List.forIn_cons, Sem.run_bind, h a (Nat.le_refl _) (by omega), Result.andThen_ok]
    exact eq_loop F m (a + 1) fun i h1 h2 => h i (by omega) (by omega)
theorem eq_nums {P : Program} {t e n : Nat} {k : IntKind} {f : Nat → Int} {w : World} (d : Nat) (ht : P.underlying t = some (.array n e)) (he : P.underlying e = some (.int k)) (hs : (sizeOf e).run P w = .ok 1 w) (ha : (isAgg e).run P w = .ok false w) :
    (Op.equalIn (d + 2) t (.agg (nums k f n).toArray) (.agg (nums k f n).toArray)).run P w = .ok true w := by
  rw [Op.equalIn]
  simp only [Sem.run_bind, run_underlying ht, Result.andThen_ok, hs]
  simp only [Std.Legacy.Range.forIn_eq_forIn_range']
  have hn : ([:n] : Std.Legacy.Range).size = n := by simp [Std.Legacy.Range.size]
  rw [hn]
  rw [eq_loop (w := w) (P := P) _ n 0 (fun i _ hi => ?_), Result.andThen_ok]
  · rfl
  · have h1 : i < n := by omega
    simp [Sem.run_bind, run_part1 h1 hs ha, run_equalIn_int (P := P) w d e k k (f i) (f i) he]
/-- '==' of two arrays of the same numbers -/
theorem eql_nums {P : Program} {t e n : Nat} {k : IntKind} {f : Nat → Int} {w : World} (ht : P.underlying t = some (.array n e)) (he : P.underlying e = some (.int k)) (hs : (sizeOf e).run P w = .ok 1 w) (ha : (isAgg e).run P w = .ok false w) :
    (binOp .eql t (.agg (nums k f n).toArray) (.agg (nums k f n).toArray)).run P w = .ok (.bool true) w := by
  rw [run_eql_struct, eq_nums (n := n) 9998 ht he hs ha, Result.andThen_ok]

theorem store_nums {P : Program} {w : World} {b n : Nat} {cs : List Value} (k : IntKind) (f : Nat → Int) (h : Own b cs w) (hl : cs.length = n) : (storeCells ⟨b, 0, none⟩ (nums k f n)).run P w = .ok () (w.setCells b 0 (nums k f n)) :=
  run_storeCells_cells (P := P) b 0 (nums k f n) 0 w (fun j hj => by simpa using (h.free j (by rw [nums_length] at hj; omega)).1) (fun j hj => by simpa using (h.free j (by rw [nums_length] at hj; omega)).2) (nums_one _ _ _)
theorem own_store {k k' : IntKind} {f g : Nat → Int} {n b : Nat} {W : World} (h : Own b (nums k f n) W) : Own b (nums k' g n) (W.setCells b 0 (nums k' g n)) := Own.store h (by rw [nums_length, nums_length])
theorem wpList_move {P : Program} {ops : Array Oper} {rest : List Oper} {op : Oper} {a : Act} {w : World} {Q : Exit → Act → World → Prop} (hgd : op.guard = none) (x : Operand) (ho : op.op = .move x)
    (h : wpList P ops Q rest (a.put op.dst (a.eval x)) w) : wpList P ops Q (op :: rest) a w :=
  wpList_plain hgd fun K hK => by
    unfold Oper.wp execOp
    simp only [ho, Sem.run_pure, Result.andThen_ok]
    exact hK _ _ h
/-- AS ONE STEP OF A REGION THAT DRAWS ITS ORDER: a load of a whole array -/
theorem step_load {P : Program} {ops : Array Oper} {o : Oper} {a : Act} {w : World} {K : Act → World → Prop} {Q : Exit → Act → World → Prop} {E : Prop}
    (hw : Region.wanted o (yielded ops a.tmps) = true) (ty : TypeId) (x : Operand) (ho : o.op = .load ty x)
    (b off : Nat) (hx : a.eval x = .pointer (some ⟨b, off, none⟩)) (cs : List Value) (d : TypeDesc) (hc : w.rangeAt b off cs)
    (hu : P.underlying ty = some d) (hd : d.isRow = true) (hi : (P.info? ty).map (·.size) = some cs.length)
    (h : K (a.put o.dst (.agg cs.toArray)) w) : if Region.wanted o (yielded ops a.tmps) = true then Oper.wp P o a w K Q else E := by
  rw [if_pos hw]
  exact wp_load_mid ty x ho b off hx cs d hc hu hd hi h
theorem nums_all (k : IntKind) (f : Nat → Int) (n : Nat) : (nums k f n).toArray.all (·.oneCell') = true := all_oneCell_toArray (nums_one k f n)
theorem nums_size (k : IntKind) (f : Nat → Int) (n : Nat) : (nums k f n).toArray.size = n := by simp [nums_length]
/-- a result that is a variable's content -/
theorem res_cell {P : Program} {fn : Func} {tmps : Array Value} {w : World} {r T : Nat} {a : Addr} {v : Value} (hf : fn.results = #[.cell r T]) (ha : tmps[r]?.getD undef = .pointer (some a)) (hl : (loadVar T a).run P w = .ok v w) :
    (results fn tmps).run P w = .ok v w := by
  have hx : (asAddr (Value.pointer (some a))).run P w = .ok a w := by simp [asAddr]
  simp [results, hf, ha, hx, hl]
theorem word_or (b0 b1 b2 b3 : Nat) (h0 : b0 < 256) (h1 : b1 < 256) (h2 : b2 < 256) (h3 : b3 < 256) :
    bits .or .u32 (bits .or .u32 (bits .or .u32 (b0 : Int) ((b1 : Int) * 256 % 4294967296)) ((b2 : Int) * 65536 % 4294967296)) ((b3 : Int) * 16777216 % 4294967296) = ((b0 + 256 * b1 + 65536 * b2 + 16777216 * b3 : Nat) : Int) := by
  have e1 : (b1 : Int) * 256 % 4294967296 = ((256 * b1 : Nat) : Int) := by omega
  have e2 : (b2 : Int) * 65536 % 4294967296 = ((65536 * b2 : Nat) : Int) := by omega
  have e3 : (b3 : Int) * 16777216 % 4294967296 = ((16777216 * b3 : Nat) : Int) := by omega
  rw [e1, e2, e3, u32_or_nat _ _ (by omega) (by omega)]
  have f1 : b0 ||| 256 * b1 = b0 + 256 * b1 := by rw [Nat.or_comm, nat_join 8 _ _ (by omega) (by omega)]; omega
  rw [f1, u32_or_nat _ _ (by omega) (by omega)]
  have f2 : b0 + 256 * b1 ||| 65536 * b2 = b0 + 256 * b1 + 65536 * b2 := by rw [Nat.or_comm, nat_join 16 _ _ (by omega) (by omega)]; omega
  rw [f2, u32_or_nat _ _ (by omega) (by omega)]
  have f3 : b0 + 256 * b1 + 65536 * b2 ||| 16777216 * b3 = b0 + 256 * b1 + 65536 * b2 + 16777216 * b3 := by rw [Nat.or_comm, nat_join 24 _ _ (by omega) (by omega)]; omega
  rw [f3]
/-- the number of four bytes, least significant first -/
def word (g : Nat → Int) (o : Nat) : Int := g o + 256 * g (o + 1) + 65536 * g (o + 2) + 16777216 * g (o + 3)
theorem in_word {g : Nat → Int} {o : Nat} (h : ∀ i, o ≤ i → i < o + 4 → inB (g i)) : in32 (word g o) := by
  have h0 := h o (by omega) (by omega)
  have h1 := h (o + 1) (by omega) (by omega)
  have h2 := h (o + 2) (by omega) (by omega)
  have h3 := h (o + 3) (by omega) (by omega)
  unfold in32 word inB at *
  omega
theorem word_or' (b0 b1 b2 b3 : Int) (h0 : inB b0) (h1 : inB b1) (h2 : inB b2) (h3 : inB b3) :
    bits .or .u32 (bits .or .u32 (bits .or .u32 b0 (b1 * 256 % 4294967296)) (b2 * 65536 % 4294967296)) (b3 * 16777216 % 4294967296) = b0 + 256 * b1 + 65536 * b2 + 16777216 * b3 := by
  unfold inB at *
  have := word_or b0.toNat b1.toNat b2.toNat b3.toNat (by omega) (by omega) (by omega) (by omega)
  rw [Int.toNat_of_nonneg h0.1, Int.toNat_of_nonneg h1.1, Int.toNat_of_nonneg h2.1, Int.toNat_of_nonneg h3.1] at this
  rw [this]
  omega
end Go.Proofs.YtjkeaiihjbcfgaaDoor

/- CE -/
namespace Go.Proofs.YtjkeaiihjbcfgaaDoor
set_option linter.unusedVariables false
set_option maxRecDepth 2000
set_option linter.unusedSimpArgs false
open Go.RowKit
theorem conv_u8 (b : Int) (h : inB b) : b % 4294967296 = b ∧ IntKind.u32.wrap b = b := by
  unfold inB at h
  rw [IntKind.wrap_u32']
  omega

theorem number_any (K o n c : Nat) (b0 b1 b2 b3 : Int) (h0 : inB b0) (h1 : inB b1) (h2 : inB b2) (h3 : inB b3) (hn : 4 ≤ n) (w : World) (hk : Has K o [.int .u8 b0, .int .u8 b1, .int .u8 b2, .int .u8 b3] w) :
    Calls Tryd.prog 47 #[.slice (some ⟨K, o, none⟩) n c] w fun e w' => e = .returned (.int .u32 (b0 + 256 * b1 + 65536 * b2 + 16777216 * b3)) ∧ Below w.heap.size w w' := by
  have hw := Lib.hid (word_or' b0 b1 b2 b3 h0 h1 h2 h3)
  have k0 := hk.at 0 _ rfl; have k1 := hk.at 1 _ rfl; have k2 := hk.at 2 _ rfl; have k3 := hk.at 3 _ rfl
  rw [Nat.add_zero] at k0
  have n0 : (0 : Int) < (n : Int) := by omega
  have N0 : 0 < n := by omega
  have n1 : (1 : Int) < (n : Int) := by omega
  have n2 : (2 : Int) < (n : Int) := by omega
  have n3 : (3 : Int) < (n : Int) := by omega
  have v0 := (conv_u8 b0 h0).1; have v1 := (conv_u8 b1 h1).1; have v2 := (conv_u8 b2 h2).1; have v3 := (conv_u8 b3 h3).1
  have q0 := (conv_u8 b0 h0).2; have q1 := (conv_u8 b1 h1).2; have q2 := (conv_u8 b2 h2).2; have q3 := (conv_u8 b3 h3).2
  clear hk hn h0 h1 h2 h3
  go_enter Tryd.func47, Tryd.ntmps47
  go_wp2_with (fail)
  go_quiet (fail)
  have hBd : Below w.heap.size w (w.drewN nq) := below_drewN (Below.refl _ _) _
  go_wp2_with (fail)
  exact bodyPost_ret (v := .int .u32 (b0 + 256 * b1 + 65536 * b2 + 16777216 * b3)) (by simp [results, Tryd.results47, IntKind.wrap_u32', hw.out]) rfl ⟨rfl, hBd⟩

theorem RNumber_any (K o n c : Nat) (b0 b1 b2 b3 : Int) (h0 : inB b0) (h1 : inB b1) (h2 : inB b2) (h3 : inB b3) (hn : 4 ≤ n) (w : World) (hk : Has K o [.int .u8 b0, .int .u8 b1, .int .u8 b2, .int .u8 b3] w) :
    Calls Tryd.prog 57 #[.slice (some ⟨K, o, none⟩) n c] w fun e w' => e = .returned (.int .u32 (b0 + 256 * b1 + 65536 * b2 + 16777216 * b3)) ∧ Below w.heap.size w w' := by
  have k0 := hk.at 0 _ rfl; have k1 := hk.at 1 _ rfl; have k2 := hk.at 2 _ rfl; have k3 := hk.at 3 _ rfl
  rw [Nat.add_zero] at k0
  have n0 : (0 : Int) < (n : Int) := by omega
  have N0 : 0 < n := by omega
  have n1 : (1 : Int) < (n : Int) := by omega
  have n2 : (2 : Int) < (n : Int) := by omega
  have n3 : (3 : Int) < (n : Int) := by omega
  have v0 := (conv_u8 b0 h0).1; have v1 := (conv_u8 b1 h1).1; have v2 := (conv_u8 b2 h2).1; have v3 := (conv_u8 b3 h3).1
  have q0 := (conv_u8 b0 h0).2; have q1 := (conv_u8 b1 h1).2; have q2 := (conv_u8 b2 h2).2; have q3 := (conv_u8 b3 h3).2
  unfold inB at h0 h1 h2 h3
  obtain ⟨m3, f3⟩ : ∃ z, b3 = z := ⟨_, rfl⟩
  obtain ⟨m2, f2⟩ : ∃ z, 256 * b3 + b2 = z := ⟨_, rfl⟩
  obtain ⟨m1, f1⟩ : ∃ z, 65536 * b3 + 256 * b2 + b1 = z := ⟨_, rfl⟩
  obtain ⟨m0, f0⟩ : ∃ z, b0 + 256 * b1 + 65536 * b2 + 16777216 * b3 = z := ⟨_, rfl⟩
  have s2 : (b3 * 256 % 4294967296 + b2) % 4294967296 = m2 := by omega
  have s1 : (m2 * 256 % 4294967296 + b1) % 4294967296 = m1 := by omega
  have s0 : (m1 * 256 % 4294967296 + b0) % 4294967296 = m0 := by omega
  have t2 : (b3 * 256 + b2) % 4294967296 = m2 := by omega
  have t1 : (m2 * 256 + b1) % 4294967296 = m1 := by omega
  have t0 : (m1 * 256 + b0) % 4294967296 = m0 := by omega
  rw [f0]
  clear hk hn h0 h1 h2 h3 f0 f1 f2 f3
  go_enter Tryd.func57, Tryd.ntmps57
  go_wp2_with (fail)
  refine wp_loop_rounds 5 ?_
  rw [rounds_succ]
  go_wp2_with (fail)
  rw [rounds_succ]
  go_wp2_with (fail)
  rw [rounds_succ]
  go_wp2_with (fail)
  rw [rounds_succ]
  go_wp2_with (fail)
  rw [rounds_succ]
  go_wp2_with (fail)
  exact bodyPost_ret (v := .int .u32 m0) (by simp [results, Tryd.results57, go_sem, t0]) rfl ⟨rfl, Below.refl _ _⟩
end Go.Proofs.YtjkeaiihjbcfgaaDoor

/- CF -/
namespace Go.Proofs.YtjkeaiihjbcfgaaDoor
set_option linter.unusedVariables false
set_option maxRecDepth 2000
set_option linter.unusedSimpArgs false
open Go.RowKit
def stF (kf : Nat → Int) (c : Int) (nf : Nat → Int) (j : Nat) : Int :=
  if j = 0 then 1634760805 else if j = 1 then 857760878 else if j = 2 then 2036477234 else if j = 3 then 1797285236
  else if j < 12 then word kf (4 * (j - 4)) else if j = 12 then c else word nf (4 * (j - 13))
theorem own_has4 {K N o : Nat} {f : Nat → Int} {W : World} (h : Own K (nums .u8 f N) W) (ho : o + 4 ≤ N) : Has K o [.int .u8 (f o), .int .u8 (f (o + 1)), .int .u8 (f (o + 2)), .int .u8 (f (o + 3))] W where
  lt := h.lt
  cell := fun j v hv => by
    match j, hv with
    | 0, hv => exact h.at o v ((nums_at _ _ (by omega)).trans hv)
    | 1, hv => exact h.at (o + 1) v ((nums_at _ _ (by omega)).trans hv)
    | 2, hv => exact h.at (o + 2) v ((nums_at _ _ (by omega)).trans hv)
    | 3, hv => exact h.at (o + 3) v ((nums_at _ _ (by omega)).trans hv)
    | j + 4, hv => cases hv

theorem number_own (K o n c N : Nat) (f : Nat → Int) (hf : ∀ i, i < N → inB (f i)) (hn : 4 ≤ n) (ho : o + 4 ≤ N) (w : World) (h : Own K (nums .u8 f N) w) : Calls Tryd.prog 47 #[.slice (some ⟨K, o, none⟩) n c] w fun e w' => e = .returned (.int .u32 (word f o)) ∧ Below w.heap.size w w' :=
  number_any K o n c _ _ _ _ (hf _ (by omega)) (hf _ (by omega)) (hf _ (by omega)) (hf _ (by omega)) hn w (own_has4 h ho)

theorem RNumber_own (K o n c N : Nat) (f : Nat → Int) (hf : ∀ i, i < N → inB (f i)) (hn : 4 ≤ n) (ho : o + 4 ≤ N) (w : World) (h : Own K (nums .u8 f N) w) : Calls Tryd.prog 57 #[.slice (some ⟨K, o, none⟩) n c] w fun e w' => e = .returned (.int .u32 (word f o)) ∧ Below w.heap.size w w' :=
  RNumber_any K o n c _ _ _ _ (hf _ (by omega)) (hf _ (by omega)) (hf _ (by omega)) (hf _ (by omega)) hn w (own_has4 h ho)

set_option maxHeartbeats 8000000 in
theorem State_any (kf nf : Nat → Int) (c : Int) (hk : ∀ i, i < 32 → inB (kf i)) (hn : ∀ i, i < 12 → inB (nf i)) (w : World) :
    Calls Tryd.prog 32 #[(.agg (nums .u8 kf 32).toArray), .int .u32 c, (.agg (nums .u8 nf 12).toArray)] w fun e w' => e = .returned (.agg (nums .u32 (stF kf c nf) 16).toArray) ∧ Below w.heap.size w w' := by
  have FK := Lib.hid hk; have FN := Lib.hid hn
  clear hk hn
  obtain ⟨k0, ek0⟩ : ∃ z, word kf 0 = z := ⟨_, rfl⟩
  obtain ⟨k1, ek1⟩ : ∃ z, word kf 4 = z := ⟨_, rfl⟩
  obtain ⟨k2, ek2⟩ : ∃ z, word kf 8 = z := ⟨_, rfl⟩
  obtain ⟨k3, ek3⟩ : ∃ z, word kf 12 = z := ⟨_, rfl⟩
  obtain ⟨k4, ek4⟩ : ∃ z, word kf 16 = z := ⟨_, rfl⟩
  obtain ⟨k5, ek5⟩ : ∃ z, word kf 20 = z := ⟨_, rfl⟩
  obtain ⟨k6, ek6⟩ : ∃ z, word kf 24 = z := ⟨_, rfl⟩
  obtain ⟨k7, ek7⟩ : ∃ z, word kf 28 = z := ⟨_, rfl⟩
  obtain ⟨m0, em0⟩ : ∃ z, word nf 0 = z := ⟨_, rfl⟩
  obtain ⟨m1, em1⟩ : ∃ z, word nf 4 = z := ⟨_, rfl⟩
  obtain ⟨m2, em2⟩ : ∃ z, word nf 8 = z := ⟨_, rfl⟩
  have HF : nums .u32 (stF kf c nf) 16 = [.int .u32 1634760805, .int .u32 857760878, .int .u32 2036477234, .int .u32 1797285236, .int .u32 k0, .int .u32 k1, .int .u32 k2, .int .u32 k3, .int .u32 k4, .int .u32 k5, .int .u32 k6, .int .u32 k7, .int .u32 c, .int .u32 m0, .int .u32 m1, .int .u32 m2] := by
    rw [← ek0, ← ek1, ← ek2, ← ek3, ← ek4, ← ek5, ← ek6, ← ek7, ← em0, ← em1, ← em2]
    rfl
  rw [HF]
  clear HF
  go_enter Tryd.func32, Tryd.ntmps32
  go_upto_region 1 with fail
  obtain ⟨W0, hW⟩ : ∃ W0, W0 = (((w.alloc (.cells (nums .u8 kf 32).toArray 22)).alloc (.cells (nums .u8 nf 12).toArray 23)).alloc (.cells #[.int .u32 0, .int .u32 0, .int .u32 0, .int .u32 0, .int .u32 0, .int .u32 0, .int .u32 0, .int .u32 0, .int .u32 0, .int .u32 0, .int .u32 0, .int .u32 0, .int .u32 0, .int .u32 0, .int .u32 0, .int .u32 0] 50)) := ⟨_, rfl⟩
  have hB0 : Below w.heap.size w W0 := hW ▸ (Below.al (Below.al (Below.al (Below.refl _ _))))
  have HK : Hid (Own w.heap.size (nums .u8 kf 32) W0) := Lib.hid (hW ▸ (show Own w.heap.size (nums .u8 kf 32) (w.alloc (.cells (nums .u8 kf 32).toArray 22)) from Own.newAt (by simp)).alloc.alloc)
  have HM : Hid (Own (w.heap.size + 1) (nums .u8 nf 12) W0) := Lib.hid (hW ▸ (show Own (w.heap.size + 1) (nums .u8 nf 12) ((w.alloc (.cells (nums .u8 kf 32).toArray 22)).alloc (.cells (nums .u8 nf 12).toArray 23)) from Own.newAt (by simp)).alloc)
  have HR : Hid (Own ((w.heap.size + 1) + 1) ([.int .u32 0, .int .u32 0, .int .u32 0, .int .u32 0, .int .u32 0, .int .u32 0, .int .u32 0, .int .u32 0, .int .u32 0, .int .u32 0, .int .u32 0, .int .u32 0, .int .u32 0, .int .u32 0, .int .u32 0, .int .u32 0]) W0) := Lib.hid (hW ▸ (show Own ((w.heap.size + 1) + 1) ([.int .u32 0, .int .u32 0, .int .u32 0, .int .u32 0, .int .u32 0, .int .u32 0, .int .u32 0, .int .u32 0, .int .u32 0, .int .u32 0, .int .u32 0, .int .u32 0, .int .u32 0, .int .u32 0, .int .u32 0, .int .u32 0]) (((w.alloc (.cells (nums .u8 kf 32).toArray 22)).alloc (.cells (nums .u8 nf 12).toArray 23)).alloc (.cells #[.int .u32 0, .int .u32 0, .int .u32 0, .int .u32 0, .int .u32 0, .int .u32 0, .int .u32 0, .int .u32 0, .int .u32 0, .int .u32 0, .int .u32 0, .int .u32 0, .int .u32 0, .int .u32 0, .int .u32 0, .int .u32 0] 50)) from Own.newAt (by simp)))
  rw [← hW]
  clear hW
  obtain ⟨R, eR⟩ : ∃ X, X = ((w.heap.size + 1) + 1) := ⟨_, rfl⟩
  rw [← eR] at HR ⊢
  have Rw : w.heap.size ≤ R := by omega
  obtain ⟨M, eM⟩ : ∃ X, X = (w.heap.size + 1) := ⟨_, rfl⟩
  rw [← eM] at HM ⊢
  have Mw : w.heap.size ≤ M := by omega
  obtain ⟨K, eK⟩ : ∃ X, X = w.heap.size := ⟨_, rfl⟩
  rw [← eK] at HK ⊢
  have Kw : w.heap.size ≤ K := by omega
  have nKM : K ≠ M := by omega
  have nMK : M ≠ K := by omega
  have nKR : K ≠ R := by omega
  have nRK : R ≠ K := by omega
  have nMR : M ≠ R := by omega
  have nRM : R ≠ M := by omega
  clear eK eM eR
  go_upto_region 2 with fail
  obtain ⟨w0, hW⟩ : ∃ w0, w0 = (W0.alloc (.cells #[.int .u32 1634760805, .int .u32 857760878, .int .u32 2036477234, .int .u32 1797285236, .int .u32 0, .int .u32 0, .int .u32 0, .int .u32 0, .int .u32 0, .int .u32 0, .int .u32 0, .int .u32 0, .int .u32 c, .int .u32 0, .int .u32 0, .int .u32 0] 50)) := ⟨_, rfl⟩
  have hBx : Below W0.heap.size W0 w0 := hW ▸ (Below.al (Below.refl _ _))
  have HS : Hid (Own W0.heap.size ([.int .u32 1634760805, .int .u32 857760878, .int .u32 2036477234, .int .u32 1797285236, .int .u32 0, .int .u32 0, .int .u32 0, .int .u32 0, .int .u32 0, .int .u32 0, .int .u32 0, .int .u32 0, .int .u32 c, .int .u32 0, .int .u32 0, .int .u32 0]) w0) := Lib.hid (hW ▸ (show Own W0.heap.size ([.int .u32 1634760805, .int .u32 857760878, .int .u32 2036477234, .int .u32 1797285236, .int .u32 0, .int .u32 0, .int .u32 0, .int .u32 0, .int .u32 0, .int .u32 0, .int .u32 0, .int .u32 0, .int .u32 c, .int .u32 0, .int .u32 0, .int .u32 0]) (W0.alloc (.cells #[.int .u32 1634760805, .int .u32 857760878, .int .u32 2036477234, .int .u32 1797285236, .int .u32 0, .int .u32 0, .int .u32 0, .int .u32 0, .int .u32 0, .int .u32 0, .int .u32 0, .int .u32 0, .int .u32 c, .int .u32 0, .int .u32 0, .int .u32 0] 50)) from Own.newAt (by simp)))
  rw [← hW]
  clear hW
  obtain ⟨S, eS⟩ : ∃ X, X = W0.heap.size := ⟨_, rfl⟩
  rw [← eS] at HS ⊢
  have Sw : W0.heap.size ≤ S := by omega
  clear eS
  have nSK : S ≠ K := by have := HK.out.lt; omega
  have nKS : K ≠ S := Ne.symm nSK
  have nSM : S ≠ M := by have := HM.out.lt; omega
  have nMS : M ≠ S := Ne.symm nSM
  have nSR : S ≠ R := by have := HR.out.lt; omega
  have nRS : R ≠ S := Ne.symm nSR
  have Sw2 : w.heap.size ≤ S := by have := hB0.size; omega
  clear Sw
  have Sw := Sw2
  clear Sw2
  have HKk := Lib.hid (HK.out.later hBx)
  have HMk := Lib.hid (HM.out.later hBx)
  have HRk := Lib.hid (HR.out.later hBx)
  clear HK HM HR
  have HK := HKk
  clear HKk
  have HM := HMk
  clear HMk
  have HR := HRk
  clear HRk
  have hB0n := Below.go hB0 hBx
  clear hB0 hBx
  have hB0 := hB0n
  clear hB0n
  go_wp2_with (fail)
  refine wp_loop_rounds 9 ?_
  rw [rounds_succ]
  go_wp2_with (fail)
  go_at_call 47
  refine (number_own K 0 _ _ 32 kf FK.out (by decide) (by decide) _ HK.out).mono ?_
  rintro e w1 ⟨rfl, hb⟩
  rw [ek0]
  have HSk := Lib.hid (HS.out.later hb)
  have HKk := Lib.hid (HK.out.later hb)
  have HMk := Lib.hid (HM.out.later hb)
  have HRk := Lib.hid (HR.out.later hb)
  clear HS HK HM HR
  have HS := HSk
  clear HSk
  have HK := HKk
  clear HKk
  have HM := HMk
  clear HMk
  have HR := HRk
  clear HRk
  have hB1 := Below.go hB0 hb
  clear hB0 hb
  have hB0 := hB1
  clear hB1
  have oS := HS.out
  have S4 := oS.at 4 _ rfl
  have Sf4 := oS.ok 4 (by simp)
  have Sl := oS.lt
  clear oS
  go_wp2_with (fail)
  clear S4 Sf4 Sl
  change Code.rounds _ _ _ _ _ (w1.setCells S 4 [.int .u32 k0])
  have HSn : Hid (Own S ([.int .u32 1634760805, .int .u32 857760878, .int .u32 2036477234, .int .u32 1797285236, .int .u32 k0, .int .u32 0, .int .u32 0, .int .u32 0, .int .u32 0, .int .u32 0, .int .u32 0, .int .u32 0, .int .u32 c, .int .u32 0, .int .u32 0, .int .u32 0]) (w1.setCells S 4 [.int .u32 k0])) := Lib.hid (show Own S (over _ 4 [.int .u32 k0]) _ from Own.part HS.out (by simp))
  have HKn : Hid (Own K (nums .u8 kf 32) (w1.setCells S 4 [.int .u32 k0])) := Lib.hid (Own.far (o := 4) (vs := [.int .u32 k0]) HK.out nKS)
  have HMn : Hid (Own M (nums .u8 nf 12) (w1.setCells S 4 [.int .u32 k0])) := Lib.hid (Own.far (o := 4) (vs := [.int .u32 k0]) HM.out nMS)
  have HRn : Hid (Own R ([.int .u32 0, .int .u32 0, .int .u32 0, .int .u32 0, .int .u32 0, .int .u32 0, .int .u32 0, .int .u32 0, .int .u32 0, .int .u32 0, .int .u32 0, .int .u32 0, .int .u32 0, .int .u32 0, .int .u32 0, .int .u32 0]) (w1.setCells S 4 [.int .u32 k0])) := Lib.hid (Own.far (o := 4) (vs := [.int .u32 k0]) HR.out nRS)
  have hB0n : Below w.heap.size w (w1.setCells S 4 [.int .u32 k0]) := Below.setCells hB0 Sw [.int .u32 k0] 4
  clear HS HK HM HR hB0
  generalize (w1.setCells S 4 [.int .u32 k0]) = w2 at *
  have HS := HSn
  clear HSn
  have HK := HKn
  clear HKn
  have HM := HMn
  clear HMn
  have HR := HRn
  clear HRn
  have hB0 := hB0n
  clear hB0n
  rw [rounds_succ]
  go_wp2_with (fail)
  go_at_call 47
  refine (number_own K 4 _ _ 32 kf FK.out (by decide) (by decide) _ HK.out).mono ?_
  rintro e w1 ⟨rfl, hb⟩
  rw [ek1]
  have HSk := Lib.hid (HS.out.later hb)
  have HKk := Lib.hid (HK.out.later hb)
  have HMk := Lib.hid (HM.out.later hb)
  have HRk := Lib.hid (HR.out.later hb)
  clear HS HK HM HR
  have HS := HSk
  clear HSk
  have HK := HKk
  clear HKk
  have HM := HMk
  clear HMk
  have HR := HRk
  clear HRk
  have hB1 := Below.go hB0 hb
  clear hB0 hb
  have hB0 := hB1
  clear hB1
  have oS := HS.out
  have S5 := oS.at 5 _ rfl
  have Sf5 := oS.ok 5 (by simp)
  have Sl := oS.lt
  clear oS
  go_wp2_with (fail)
  clear S5 Sf5 Sl
  change Code.rounds _ _ _ _ _ (w1.setCells S 5 [.int .u32 k1])
  have HSn : Hid (Own S ([.int .u32 1634760805, .int .u32 857760878, .int .u32 2036477234, .int .u32 1797285236, .int .u32 k0, .int .u32 k1, .int .u32 0, .int .u32 0, .int .u32 0, .int .u32 0, .int .u32 0, .int .u32 0, .int .u32 c, .int .u32 0, .int .u32 0, .int .u32 0]) (w1.setCells S 5 [.int .u32 k1])) := Lib.hid (show Own S (over _ 5 [.int .u32 k1]) _ from Own.part HS.out (by simp))
  have HKn : Hid (Own K (nums .u8 kf 32) (w1.setCells S 5 [.int .u32 k1])) := Lib.hid (Own.far (o := 5) (vs := [.int .u32 k1]) HK.out nKS)
  have HMn : Hid (Own M (nums .u8 nf 12) (w1.setCells S 5 [.int .u32 k1])) := Lib.hid (Own.far (o := 5) (vs := [.int .u32 k1]) HM.out nMS)
  have HRn : Hid (Own R ([.int .u32 0, .int .u32 0, .int .u32 0, .int .u32 0, .int .u32 0, .int .u32 0, .int .u32 0, .int .u32 0, .int .u32 0, .int .u32 0, .int .u32 0, .int .u32 0, .int .u32 0, .int .u32 0, .int .u32 0, .int .u32 0]) (w1.setCells S 5 [.int .u32 k1])) := Lib.hid (Own.far (o := 5) (vs := [.int .u32 k1]) HR.out nRS)
  have hB0n : Below w.heap.size w (w1.setCells S 5 [.int .u32 k1]) := Below.setCells hB0 Sw [.int .u32 k1] 5
  clear HS HK HM HR hB0
  generalize (w1.setCells S 5 [.int .u32 k1]) = w2 at *
  have HS := HSn
  clear HSn
  have HK := HKn
  clear HKn
  have HM := HMn
  clear HMn
  have HR := HRn
  clear HRn
  have hB0 := hB0n
  clear hB0n
  rw [rounds_succ]
  go_wp2_with (fail)
  go_at_call 47
  refine (number_own K 8 _ _ 32 kf FK.out (by decide) (by decide) _ HK.out).mono ?_
  rintro e w1 ⟨rfl, hb⟩
  rw [ek2]
  have HSk := Lib.hid (HS.out.later hb)
  have HKk := Lib.hid (HK.out.later hb)
  have HMk := Lib.hid (HM.out.later hb)
  have HRk := Lib.hid (HR.out.later hb)
  clear HS HK HM HR
  have HS := HSk
  clear HSk
  have HK := HKk
  clear HKk
  have HM := HMk
  clear HMk
  have HR := HRk
  clear HRk
  have hB1 := Below.go hB0 hb
  clear hB0 hb
  have hB0 := hB1
  clear hB1
  have oS := HS.out
  have S6 := oS.at 6 _ rfl
  have Sf6 := oS.ok 6 (by simp)
  have Sl := oS.lt
  clear oS
  go_wp2_with (fail)
  clear S6 Sf6 Sl
  change Code.rounds _ _ _ _ _ (w1.setCells S 6 [.int .u32 k2])
  have HSn : Hid (Own S ([.int .u32 1634760805, .int .u32 857760878, .int .u32 2036477234, .int .u32 1797285236, .int .u32 k0, .int .u32 k1, .int .u32 k2, .int .u32 0, .int .u32 0, .int .u32 0, .int .u32 0, .int .u32 0, .int .u32 c, .int .u32 0, .int .u32 0, .int .u32 0]) (w1.setCells S 6 [.int .u32 k2])) := Lib.hid (show Own S (over _ 6 [.int .u32 k2]) _ from Own.part HS.out (by simp))
  have HKn : Hid (Own K (nums .u8 kf 32) (w1.setCells S 6 [.int .u32 k2])) := Lib.hid (Own.far (o := 6) (vs := [.int .u32 k2]) HK.out nKS)
  have HMn : Hid (Own M (nums .u8 nf 12) (w1.setCells S 6 [.int .u32 k2])) := Lib.hid (Own.far (o := 6) (vs := [.int .u32 k2]) HM.out nMS)
  have HRn : Hid (Own R ([.int .u32 0, .int .u32 0, .int .u32 0, .int .u32 0, .int .u32 0, .int .u32 0, .int .u32 0, .int .u32 0, .int .u32 0, .int .u32 0, .int .u32 0, .int .u32 0, .int .u32 0, .int .u32 0, .int .u32 0, .int .u32 0]) (w1.setCells S 6 [.int .u32 k2])) := Lib.hid (Own.far (o := 6) (vs := [.int .u32 k2]) HR.out nRS)
  have hB0n : Below w.heap.size w (w1.setCells S 6 [.int .u32 k2]) := Below.setCells hB0 Sw [.int .u32 k2] 6
  clear HS HK HM HR hB0
  generalize (w1.setCells S 6 [.int .u32 k2]) = w2 at *
  have HS := HSn
  clear HSn
  have HK := HKn
  clear HKn
  have HM := HMn
  clear HMn
  have HR := HRn
  clear HRn
  have hB0 := hB0n
  clear hB0n
  rw [rounds_succ]
  go_wp2_with (fail)
  go_at_call 47
  refine (number_own K 12 _ _ 32 kf FK.out (by decide) (by decide) _ HK.out).mono ?_
  rintro e w1 ⟨rfl, hb⟩
  rw [ek3]
  have HSk := Lib.hid (HS.out.later hb)
  have HKk := Lib.hid (HK.out.later hb)
  have HMk := Lib.hid (HM.out.later hb)
  have HRk := Lib.hid (HR.out.later hb)
  clear HS HK HM HR
  have HS := HSk
  clear HSk
  have HK := HKk
  clear HKk
  have HM := HMk
  clear HMk
  have HR := HRk
  clear HRk
  have hB1 := Below.go hB0 hb
  clear hB0 hb
  have hB0 := hB1
  clear hB1
  have oS := HS.out
  have S7 := oS.at 7 _ rfl
  have Sf7 := oS.ok 7 (by simp)
  have Sl := oS.lt
  clear oS
  go_wp2_with (fail)
  clear S7 Sf7 Sl
  change Code.rounds _ _ _ _ _ (w1.setCells S 7 [.int .u32 k3])
  have HSn : Hid (Own S ([.int .u32 1634760805, .int .u32 857760878, .int .u32 2036477234, .int .u32 1797285236, .int .u32 k0, .int .u32 k1, .int .u32 k2, .int .u32 k3, .int .u32 0, .int .u32 0, .int .u32 0, .int .u32 0, .int .u32 c, .int .u32 0, .int .u32 0, .int .u32 0]) (w1.setCells S 7 [.int .u32 k3])) := Lib.hid (show Own S (over _ 7 [.int .u32 k3]) _ from Own.part HS.out (by simp))
  have HKn : Hid (Own K (nums .u8 kf 32) (w1.setCells S 7 [.int .u32 k3])) := Lib.hid (Own.far (o := 7) (vs := [.int .u32 k3]) HK.out nKS)
  have HMn : Hid (Own M (nums .u8 nf 12) (w1.setCells S 7 [.int .u32 k3])) := Lib.hid (Own.far (o := 7) (vs := [.int .u32 k3]) HM.out nMS)
  have HRn : Hid (Own R ([.int .u32 0, .int .u32 0, .int .u32 0, .int .u32 0, .int .u32 0, .int .u32 0, .int .u32 0, .int .u32 0, .int .u32 0, .int .u32 0, .int .u32 0, .int .u32 0, .int .u32 0, .int .u32 0, .int .u32 0, .int .u32 0]) (w1.setCells S 7 [.int .u32 k3])) := Lib.hid (Own.far (o := 7) (vs := [.int .u32 k3]) HR.out nRS)
  have hB0n : Below w.heap.size w (w1.setCells S 7 [.int .u32 k3]) := Below.setCells hB0 Sw [.int .u32 k3] 7
  clear HS HK HM HR hB0
  generalize (w1.setCells S 7 [.int .u32 k3]) = w2 at *
  have HS := HSn
  clear HSn
  have HK := HKn
  clear HKn
  have HM := HMn
  clear HMn
  have HR := HRn
  clear HRn
  have hB0 := hB0n
  clear hB0n
  rw [rounds_succ]
  go_wp2_with (fail)
  go_at_call 47
  refine (number_own K 16 _ _ 32 kf FK.out (by decide) (by decide) _ HK.out).mono ?_
  rintro e w1 ⟨rfl, hb⟩
  rw [ek4]
  have HSk := Lib.hid (HS.out.later hb)
  have HKk := Lib.hid (HK.out.later hb)
  have HMk := Lib.hid (HM.out.later hb)
  have HRk := Lib.hid (HR.out.later hb)
  clear HS HK HM HR
  have HS := HSk
  clear HSk
  have HK := HKk
  clear HKk
  have HM := HMk
  clear HMk
  have HR := HRk
  clear HRk
  have hB1 := Below.go hB0 hb
  clear hB0 hb
  have hB0 := hB1
  clear hB1
  have oS := HS.out
  have S8 := oS.at 8 _ rfl
  have Sf8 := oS.ok 8 (by simp)
  have Sl := oS.lt
  clear oS
  go_wp2_with (fail)
  clear S8 Sf8 Sl
  change Code.rounds _ _ _ _ _ (w1.setCells S 8 [.int .u32 k4])
  have HSn : Hid (Own S ([.int .u32 1634760805, .int .u32 857760878, .int .u32 2036477234, .int .u32 1797285236, .int .u32 k0, .int .u32 k1, .int .u32 k2, .int .u32 k3, .int .u32 k4, .int .u32 0, .int .u32 0, .int .u32 0, .int .u32 c, .int .u32 0, .int .u32 0, .int .u32 0]) (w1.setCells S 8 [.int .u32 k4])) := Lib.hid (show Own S (over _ 8 [.int .u32 k4]) _ from Own.part HS.out (by simp))
  have HKn : Hid (Own K (nums .u8 kf 32) (w1.setCells S 8 [.int .u32 k4])) := Lib.hid (Own.far (o := 8) (vs := [.int .u32 k4]) HK.out nKS)
  have HMn : Hid (Own M (nums .u8 nf 12) (w1.setCells S 8 [.int .u32 k4])) := Lib.hid (Own.far (o := 8) (vs := [.int .u32 k4]) HM.out nMS)
  have HRn : Hid (Own R ([.int .u32 0, .int .u32 0, .int .u32 0, .int .u32 0, .int .u32 0, .int .u32 0, .int .u32 0, .int .u32 0, .int .u32 0, .int .u32 0, .int .u32 0, .int .u32 0, .int .u32 0, .int .u32 0, .int .u32 0, .int .u32 0]) (w1.setCells S 8 [.int .u32 k4])) := Lib.hid (Own.far (o := 8) (vs := [.int .u32 k4]) HR.out nRS)
  have hB0n : Below w.heap.size w (w1.setCells S 8 [.int .u32 k4]) := Below.setCells hB0 Sw [.int .u32 k4] 8
  clear HS HK HM HR hB0
  generalize (w1.setCells S 8 [.int .u32 k4]) = w2 at *
  have HS := HSn
  clear HSn
  have HK := HKn
  clear HKn
  have HM := HMn
  clear HMn
  have HR := HRn
  clear HRn
  have hB0 := hB0n
  clear hB0n
  rw [rounds_succ]
  go_wp2_with (fail)
  go_at_call 47
  refine (number_own K 20 _ _ 32 kf FK.out (by decide) (by decide) _ HK.out).mono ?_
  rintro e w1 ⟨rfl, hb⟩
  rw [ek5]
  have HSk := Lib.hid (HS.out.later hb)
  have HKk := Lib.hid (HK.out.later hb)
  have HMk := Lib.hid (HM.out.later hb)
  have HRk := Lib.hid (HR.out.later hb)
  clear HS HK HM HR
  have HS := HSk
  clear HSk
  have HK := HKk
  clear HKk
  have HM := HMk
  clear HMk
  have HR := HRk
  clear HRk
  have hB1 := Below.go hB0 hb
  clear hB0 hb
  have hB0 := hB1
  clear hB1
  have oS := HS.out
  have S9 := oS.at 9 _ rfl
  have Sf9 := oS.ok 9 (by simp)
  have Sl := oS.lt
  clear oS
  go_wp2_with (fail)
  clear S9 Sf9 Sl
  change Code.rounds _ _ _ _ _ (w1.setCells S 9 [.int .u32 k5])
  have HSn : Hid (Own S ([.int .u32 1634760805, .int .u32 857760878, .int .u32 2036477234, .int .u32 1797285236, .int .u32 k0, .int .u32 k1, .int .u32 k2, .int .u32 k3, .int .u32 k4, .int .u32 k5, .int .u32 0, .int .u32 0, .int .u32 c, .int .u32 0, .int .u32 0, .int .u32 0]) (w1.setCells S 9 [.int .u32 k5])) := Lib.hid (show Own S (over _ 9 [.int .u32 k5]) _ from Own.part HS.out (by simp))
  have HKn : Hid (Own K (nums .u8 kf 32) (w1.setCells S 9 [.int .u32 k5])) := Lib.hid (Own.far (o := 9) (vs := [.int .u32 k5]) HK.out nKS)
  have HMn : Hid (Own M (nums .u8 nf 12) (w1.setCells S 9 [.int .u32 k5])) := Lib.hid (Own.far (o := 9) (vs := [.int .u32 k5]) HM.out nMS)
  have HRn : Hid (Own R ([.int .u32 0, .int .u32 0, .int .u32 0, .int .u32 0, .int .u32 0, .int .u32 0, .int .u32 0, .int .u32 0, .int .u32 0, .int .u32 0, .int .u32 0, .int .u32 0, .int .u32 0, .int .u32 0, .int .u32 0, .int .u32 0]) (w1.setCells S 9 [.int .u32 k5])) := Lib.hid (Own.far (o := 9) (vs := [.int .u32 k5]) HR.out nRS)
  have hB0n : Below w.heap.size w (w1.setCells S 9 [.int .u32 k5]) := Below.setCells hB0 Sw [.int .u32 k5] 9
  clear HS HK HM HR hB0
  generalize (w1.setCells S 9 [.int .u32 k5]) = w2 at *
  have HS := HSn
  clear HSn
  have HK := HKn
  clear HKn
  have HM := HMn
  clear HMn
  have HR := HRn
  clear HRn
  have hB0 := hB0n
  clear hB0n
  rw [rounds_succ]
  go_wp2_with (fail)
  go_at_call 47
  refine (number_own K 24 _ _ 32 kf FK.out (by decide) (by decide) _ HK.out).mono ?_
  rintro e w1 ⟨rfl, hb⟩
  rw [ek6]
  have HSk := Lib.hid (HS.out.later hb)
  have HKk := Lib.hid (HK.out.later hb)
  have HMk := Lib.hid (HM.out.later hb)
  have HRk := Lib.hid (HR.out.later hb)
  clear HS HK HM HR
  have HS := HSk
  clear HSk
  have HK := HKk
  clear HKk
  have HM := HMk
  clear HMk
  have HR := HRk
  clear HRk
  have hB1 := Below.go hB0 hb
  clear hB0 hb
  have hB0 := hB1
  clear hB1
  have oS := HS.out
  have S10 := oS.at 10 _ rfl
  have Sf10 := oS.ok 10 (by simp)
  have Sl := oS.lt
  clear oS
  go_wp2_with (fail)
  clear S10 Sf10 Sl
  change Code.rounds _ _ _ _ _ (w1.setCells S 10 [.int .u32 k6])
  have HSn : Hid (Own S ([.int .u32 1634760805, .int .u32 857760878, .int .u32 2036477234, .int .u32 1797285236, .int .u32 k0, .int .u32 k1, .int .u32 k2, .int .u32 k3, .int .u32 k4, .int .u32 k5, .int .u32 k6, .int .u32 0, .int .u32 c, .int .u32 0, .int .u32 0, .int .u32 0]) (w1.setCells S 10 [.int .u32 k6])) := Lib.hid (show Own S (over _ 10 [.int .u32 k6]) _ from Own.part HS.out (by simp))
  have HKn : Hid (Own K (nums .u8 kf 32) (w1.setCells S 10 [.int .u32 k6])) := Lib.hid (Own.far (o := 10) (vs := [.int .u32 k6]) HK.out nKS)
  have HMn : Hid (Own M (nums .u8 nf 12) (w1.setCells S 10 [.int .u32 k6])) := Lib.hid (Own.far (o := 10) (vs := [.int .u32 k6]) HM.out nMS)
  have HRn : Hid (Own R ([.int .u32 0, .int .u32 0, .int .u32 0, .int .u32 0, .int .u32 0, .int .u32 0, .int .u32 0, .int .u32 0, .int .u32 0, .int .u32 0, .int .u32 0, .int .u32 0, .int .u32 0, .int .u32 0, .int .u32 0, .int .u32 0]) (w1.setCells S 10 [.int .u32 k6])) := Lib.hid (Own.far (o := 10) (vs := [.int .u32 k6]) HR.out nRS)
  have hB0n : Below w.heap.size w (w1.setCells S 10 [.int .u32 k6]) := Below.setCells hB0 Sw [.int .u32 k6] 10
  clear HS HK HM HR hB0
  generalize (w1.setCells S 10 [.int .u32 k6]) = w2 at *
  have HS := HSn
  clear HSn
  have HK := HKn
  clear HKn
  have HM := HMn
  clear HMn
  have HR := HRn
  clear HRn
  have hB0 := hB0n
  clear hB0n
  rw [rounds_succ]
  go_wp2_with (fail)
  go_at_call 47
  refine (number_own K 28 _ _ 32 kf FK.out (by decide) (by decide) _ HK.out).mono ?_
  rintro e w1 ⟨rfl, hb⟩
  rw [ek7]
  have HSk := Lib.hid (HS.out.later hb)
  have HKk := Lib.hid (HK.out.later hb)
  have HMk := Lib.hid (HM.out.later hb)
  have HRk := Lib.hid (HR.out.later hb)
  clear HS HK HM HR
  have HS := HSk
  clear HSk
  have HK := HKk
  clear HKk
  have HM := HMk
  clear HMk
  have HR := HRk
  clear HRk
  have hB1 := Below.go hB0 hb
  clear hB0 hb
  have hB0 := hB1
  clear hB1
  have oS := HS.out
  have S11 := oS.at 11 _ rfl
  have Sf11 := oS.ok 11 (by simp)
  have Sl := oS.lt
  clear oS
  go_wp2_with (fail)
  clear S11 Sf11 Sl
  change Code.rounds _ _ _ _ _ (w1.setCells S 11 [.int .u32 k7])
  have HSn : Hid (Own S ([.int .u32 1634760805, .int .u32 857760878, .int .u32 2036477234, .int .u32 1797285236, .int .u32 k0, .int .u32 k1, .int .u32 k2, .int .u32 k3, .int .u32 k4, .int .u32 k5, .int .u32 k6, .int .u32 k7, .int .u32 c, .int .u32 0, .int .u32 0, .int .u32 0]) (w1.setCells S 11 [.int .u32 k7])) := Lib.hid (show Own S (over _ 11 [.int .u32 k7]) _ from Own.part HS.out (by simp))
  have HKn : Hid (Own K (nums .u8 kf 32) (w1.setCells S 11 [.int .u32 k7])) := Lib.hid (Own.far (o := 11) (vs := [.int .u32 k7]) HK.out nKS)
  have HMn : Hid (Own M (nums .u8 nf 12) (w1.setCells S 11 [.int .u32 k7])) := Lib.hid (Own.far (o := 11) (vs := [.int .u32 k7]) HM.out nMS)
  have HRn : Hid (Own R ([.int .u32 0, .int .u32 0, .int .u32 0, .int .u32 0, .int .u32 0, .int .u32 0, .int .u32 0, .int .u32 0, .int .u32 0, .int .u32 0, .int .u32 0, .int .u32 0, .int .u32 0, .int .u32 0, .int .u32 0, .int .u32 0]) (w1.setCells S 11 [.int .u32 k7])) := Lib.hid (Own.far (o := 11) (vs := [.int .u32 k7]) HR.out nRS)
  have hB0n : Below w.heap.size w (w1.setCells S 11 [.int .u32 k7]) := Below.setCells hB0 Sw [.int .u32 k7] 11
  clear HS HK HM HR hB0
  generalize (w1.setCells S 11 [.int .u32 k7]) = w2 at *
  have HS := HSn
  clear HSn
  have HK := HKn
  clear HKn
  have HM := HMn
  clear HMn
  have HR := HRn
  clear HRn
  have hB0 := hB0n
  clear hB0n
  rw [rounds_succ]
  go_wp2_with (fail)
  refine wp_loop_rounds 4 ?_
  rw [rounds_succ]
  go_wp2_with (fail)
  go_at_call 47
  refine (number_own M 0 _ _ 12 nf FN.out (by decide) (by decide) _ HM.out).mono ?_
  rintro e w1 ⟨rfl, hb⟩
  rw [em0]
  have HSk := Lib.hid (HS.out.later hb)
  have HKk := Lib.hid (HK.out.later hb)
  have HMk := Lib.hid (HM.out.later hb)
  have HRk := Lib.hid (HR.out.later hb)
  clear HS HK HM HR
  have HS := HSk
  clear HSk
  have HK := HKk
  clear HKk
  have HM := HMk
  clear HMk
  have HR := HRk
  clear HRk
  have hB1 := Below.go hB0 hb
  clear hB0 hb
  have hB0 := hB1
  clear hB1
  have oS := HS.out
  have S13 := oS.at 13 _ rfl
  have Sf13 := oS.ok 13 (by simp)
  have Sl := oS.lt
  clear oS
  go_wp2_with (fail)
  clear S13 Sf13 Sl
  change Code.rounds _ _ _ _ _ (w1.setCells S 13 [.int .u32 m0])
  have HSn : Hid (Own S ([.int .u32 1634760805, .int .u32 857760878, .int .u32 2036477234, .int .u32 1797285236, .int .u32 k0, .int .u32 k1, .int .u32 k2, .int .u32 k3, .int .u32 k4, .int .u32 k5, .int .u32 k6, .int .u32 k7, .int .u32 c, .int .u32 m0, .int .u32 0, .int .u32 0]) (w1.setCells S 13 [.int .u32 m0])) := Lib.hid (show Own S (over _ 13 [.int .u32 m0]) _ from Own.part HS.out (by simp))
  have HKn : Hid (Own K (nums .u8 kf 32) (w1.setCells S 13 [.int .u32 m0])) := Lib.hid (Own.far (o := 13) (vs := [.int .u32 m0]) HK.out nKS)
  have HMn : Hid (Own M (nums .u8 nf 12) (w1.setCells S 13 [.int .u32 m0])) := Lib.hid (Own.far (o := 13) (vs := [.int .u32 m0]) HM.out nMS)
  have HRn : Hid (Own R ([.int .u32 0, .int .u32 0, .int .u32 0, .int .u32 0, .int .u32 0, .int .u32 0, .int .u32 0, .int .u32 0, .int .u32 0, .int .u32 0, .int .u32 0, .int .u32 0, .int .u32 0, .int .u32 0, .int .u32 0, .int .u32 0]) (w1.setCells S 13 [.int .u32 m0])) := Lib.hid (Own.far (o := 13) (vs := [.int .u32 m0]) HR.out nRS)
  have hB0n : Below w.heap.size w (w1.setCells S 13 [.int .u32 m0]) := Below.setCells hB0 Sw [.int .u32 m0] 13
  clear HS HK HM HR hB0
  generalize (w1.setCells S 13 [.int .u32 m0]) = w2 at *
  have HS := HSn
  clear HSn
  have HK := HKn
  clear HKn
  have HM := HMn
  clear HMn
  have HR := HRn
  clear HRn
  have hB0 := hB0n
  clear hB0n
  rw [rounds_succ]
  go_wp2_with (fail)
  go_at_call 47
  refine (number_own M 4 _ _ 12 nf FN.out (by decide) (by decide) _ HM.out).mono ?_
  rintro e w1 ⟨rfl, hb⟩
  rw [em1]
  have HSk := Lib.hid (HS.out.later hb)
  have HKk := Lib.hid (HK.out.later hb)
  have HMk := Lib.hid (HM.out.later hb)
  have HRk := Lib.hid (HR.out.later hb)
  clear HS HK HM HR
  have HS := HSk
  clear HSk
  have HK := HKk
  clear HKk
  have HM := HMk
  clear HMk
  have HR := HRk
  clear HRk
  have hB1 := Below.go hB0 hb
  clear hB0 hb
  have hB0 := hB1
  clear hB1
  have oS := HS.out
  have S14 := oS.at 14 _ rfl
  have Sf14 := oS.ok 14 (by simp)
  have Sl := oS.lt
  clear oS
  go_wp2_with (fail)
  clear S14 Sf14 Sl
  change Code.rounds _ _ _ _ _ (w1.setCells S 14 [.int .u32 m1])
  have HSn : Hid (Own S ([.int .u32 1634760805, .int .u32 857760878, .int .u32 2036477234, .int .u32 1797285236, .int .u32 k0, .int .u32 k1, .int .u32 k2, .int .u32 k3, .int .u32 k4, .int .u32 k5, .int .u32 k6, .int .u32 k7, .int .u32 c, .int .u32 m0, .int .u32 m1, .int .u32 0]) (w1.setCells S 14 [.int .u32 m1])) := Lib.hid (show Own S (over _ 14 [.int .u32 m1]) _ from Own.part HS.out (by simp))
  have HKn : Hid (Own K (nums .u8 kf 32) (w1.setCells S 14 [.int .u32 m1])) := Lib.hid (Own.far (o := 14) (vs := [.int .u32 m1]) HK.out nKS)
  have HMn : Hid (Own M (nums .u8 nf 12) (w1.setCells S 14 [.int .u32 m1])) := Lib.hid (Own.far (o := 14) (vs := [.int .u32 m1]) HM.out nMS)
  have HRn : Hid (Own R ([.int .u32 0, .int .u32 0, .int .u32 0, .int .u32 0, .int .u32 0, .int .u32 0, .int .u32 0, .int .u32 0, .int .u32 0, .int .u32 0, .int .u32 0, .int .u32 0, .int .u32 0, .int .u32 0, .int .u32 0, .int .u32 0]) (w1.setCells S 14 [.int .u32 m1])) := Lib.hid (Own.far (o := 14) (vs := [.int .u32 m1]) HR.out nRS)
  have hB0n : Below w.heap.size w (w1.setCells S 14 [.int .u32 m1]) := Below.setCells hB0 Sw [.int .u32 m1] 14
  clear HS HK HM HR hB0
  generalize (w1.setCells S 14 [.int .u32 m1]) = w2 at *
  have HS := HSn
  clear HSn
  have HK := HKn
  clear HKn
  have HM := HMn
  clear HMn
  have HR := HRn
  clear HRn
  have hB0 := hB0n
  clear hB0n
  rw [rounds_succ]
  go_wp2_with (fail)
  go_at_call 47
  refine (number_own M 8 _ _ 12 nf FN.out (by decide) (by decide) _ HM.out).mono ?_
  rintro e w1 ⟨rfl, hb⟩
  rw [em2]
  have HSk := Lib.hid (HS.out.later hb)
  have HKk := Lib.hid (HK.out.later hb)
  have HMk := Lib.hid (HM.out.later hb)
  have HRk := Lib.hid (HR.out.later hb)
  clear HS HK HM HR
  have HS := HSk
  clear HSk
  have HK := HKk
  clear HKk
  have HM := HMk
  clear HMk
  have HR := HRk
  clear HRk
  have hB1 := Below.go hB0 hb
  clear hB0 hb
  have hB0 := hB1
  clear hB1
  have oS := HS.out
  have S15 := oS.at 15 _ rfl
  have Sf15 := oS.ok 15 (by simp)
  have Sl := oS.lt
  clear oS
  go_wp2_with (fail)
  clear S15 Sf15 Sl
  change Code.rounds _ _ _ _ _ (w1.setCells S 15 [.int .u32 m2])
  have HSn : Hid (Own S ([.int .u32 1634760805, .int .u32 857760878, .int .u32 2036477234, .int .u32 1797285236, .int .u32 k0, .int .u32 k1, .int .u32 k2, .int .u32 k3, .int .u32 k4, .int .u32 k5, .int .u32 k6, .int .u32 k7, .int .u32 c, .int .u32 m0, .int .u32 m1, .int .u32 m2]) (w1.setCells S 15 [.int .u32 m2])) := Lib.hid (show Own S (over _ 15 [.int .u32 m2]) _ from Own.part HS.out (by simp))
  have HKn : Hid (Own K (nums .u8 kf 32) (w1.setCells S 15 [.int .u32 m2])) := Lib.hid (Own.far (o := 15) (vs := [.int .u32 m2]) HK.out nKS)
  have HMn : Hid (Own M (nums .u8 nf 12) (w1.setCells S 15 [.int .u32 m2])) := Lib.hid (Own.far (o := 15) (vs := [.int .u32 m2]) HM.out nMS)
  have HRn : Hid (Own R ([.int .u32 0, .int .u32 0, .int .u32 0, .int .u32 0, .int .u32 0, .int .u32 0, .int .u32 0, .int .u32 0, .int .u32 0, .int .u32 0, .int .u32 0, .int .u32 0, .int .u32 0, .int .u32 0, .int .u32 0, .int .u32 0]) (w1.setCells S 15 [.int .u32 m2])) := Lib.hid (Own.far (o := 15) (vs := [.int .u32 m2]) HR.out nRS)
  have hB0n : Below w.heap.size w (w1.setCells S 15 [.int .u32 m2]) := Below.setCells hB0 Sw [.int .u32 m2] 15
  clear HS HK HM HR hB0
  generalize (w1.setCells S 15 [.int .u32 m2]) = w2 at *
  have HS := HSn
  clear HSn
  have HK := HKn
  clear HKn
  have HM := HMn
  clear HMn
  have HR := HRn
  clear HRn
  have hB0 := hB0n
  clear hB0n
  rw [rounds_succ]
  go_upto_region 12 with fail
  refine wp_region_lit ?_
  refine wpList_load_mid rfl 50 _ rfl S 0 rfl ([.int .u32 1634760805, .int .u32 857760878, .int .u32 2036477234, .int .u32 1797285236, .int .u32 k0, .int .u32 k1, .int .u32 k2, .int .u32 k3, .int .u32 k4, .int .u32 k5, .int .u32 k6, .int .u32 k7, .int .u32 c, .int .u32 m0, .int .u32 m1, .int .u32 m2]) _ HS.out.cell Tryd.underlying50 rfl (by kernel_rfl) ?_
  refine wpList_store_mid rfl 50 _ _ rfl R 0 ([.int .u32 1634760805, .int .u32 857760878, .int .u32 2036477234, .int .u32 1797285236, .int .u32 k0, .int .u32 k1, .int .u32 k2, .int .u32 k3, .int .u32 k4, .int .u32 k5, .int .u32 k6, .int .u32 k7, .int .u32 c, .int .u32 m0, .int .u32 m1, .int .u32 m2]).toArray rfl rfl HR.out.free (by kernel_rfl) (by simp [Value.oneCell']) ?_
  change wpList _ _ _ [] _ (w2.setCells R 0 [.int .u32 1634760805, .int .u32 857760878, .int .u32 2036477234, .int .u32 1797285236, .int .u32 k0, .int .u32 k1, .int .u32 k2, .int .u32 k3, .int .u32 k4, .int .u32 k5, .int .u32 k6, .int .u32 k7, .int .u32 c, .int .u32 m0, .int .u32 m1, .int .u32 m2])
  have HRn : Hid (Own R ([.int .u32 1634760805, .int .u32 857760878, .int .u32 2036477234, .int .u32 1797285236, .int .u32 k0, .int .u32 k1, .int .u32 k2, .int .u32 k3, .int .u32 k4, .int .u32 k5, .int .u32 k6, .int .u32 k7, .int .u32 c, .int .u32 m0, .int .u32 m1, .int .u32 m2]) (w2.setCells R 0 [.int .u32 1634760805, .int .u32 857760878, .int .u32 2036477234, .int .u32 1797285236, .int .u32 k0, .int .u32 k1, .int .u32 k2, .int .u32 k3, .int .u32 k4, .int .u32 k5, .int .u32 k6, .int .u32 k7, .int .u32 c, .int .u32 m0, .int .u32 m1, .int .u32 m2])) := Lib.hid (Own.store HR.out rfl)
  have HSn : Hid (Own S ([.int .u32 1634760805, .int .u32 857760878, .int .u32 2036477234, .int .u32 1797285236, .int .u32 k0, .int .u32 k1, .int .u32 k2, .int .u32 k3, .int .u32 k4, .int .u32 k5, .int .u32 k6, .int .u32 k7, .int .u32 c, .int .u32 m0, .int .u32 m1, .int .u32 m2]) (w2.setCells R 0 [.int .u32 1634760805, .int .u32 857760878, .int .u32 2036477234, .int .u32 1797285236, .int .u32 k0, .int .u32 k1, .int .u32 k2, .int .u32 k3, .int .u32 k4, .int .u32 k5, .int .u32 k6, .int .u32 k7, .int .u32 c, .int .u32 m0, .int .u32 m1, .int .u32 m2])) := Lib.hid (Own.far (o := 0) (vs := [.int .u32 1634760805, .int .u32 857760878, .int .u32 2036477234, .int .u32 1797285236, .int .u32 k0, .int .u32 k1, .int .u32 k2, .int .u32 k3, .int .u32 k4, .int .u32 k5, .int .u32 k6, .int .u32 k7, .int .u32 c, .int .u32 m0, .int .u32 m1, .int .u32 m2]) HS.out nSR)
  have HKn : Hid (Own K (nums .u8 kf 32) (w2.setCells R 0 [.int .u32 1634760805, .int .u32 857760878, .int .u32 2036477234, .int .u32 1797285236, .int .u32 k0, .int .u32 k1, .int .u32 k2, .int .u32 k3, .int .u32 k4, .int .u32 k5, .int .u32 k6, .int .u32 k7, .int .u32 c, .int .u32 m0, .int .u32 m1, .int .u32 m2])) := Lib.hid (Own.far (o := 0) (vs := [.int .u32 1634760805, .int .u32 857760878, .int .u32 2036477234, .int .u32 1797285236, .int .u32 k0, .int .u32 k1, .int .u32 k2, .int .u32 k3, .int .u32 k4, .int .u32 k5, .int .u32 k6, .int .u32 k7, .int .u32 c, .int .u32 m0, .int .u32 m1, .int .u32 m2]) HK.out nKR)
  have HMn : Hid (Own M (nums .u8 nf 12) (w2.setCells R 0 [.int .u32 1634760805, .int .u32 857760878, .int .u32 2036477234, .int .u32 1797285236, .int .u32 k0, .int .u32 k1, .int .u32 k2, .int .u32 k3, .int .u32 k4, .int .u32 k5, .int .u32 k6, .int .u32 k7, .int .u32 c, .int .u32 m0, .int .u32 m1, .int .u32 m2])) := Lib.hid (Own.far (o := 0) (vs := [.int .u32 1634760805, .int .u32 857760878, .int .u32 2036477234, .int .u32 1797285236, .int .u32 k0, .int .u32 k1, .int .u32 k2, .int .u32 k3, .int .u32 k4, .int .u32 k5, .int .u32 k6, .int .u32 k7, .int .u32 c, .int .u32 m0, .int .u32 m1, .int .u32 m2]) HM.out nMR)
  have hB0n : Below w.heap.size w (w2.setCells R 0 [.int .u32 1634760805, .int .u32 857760878, .int .u32 2036477234, .int .u32 1797285236, .int .u32 k0, .int .u32 k1, .int .u32 k2, .int .u32 k3, .int .u32 k4, .int .u32 k5, .int .u32 k6, .int .u32 k7, .int .u32 c, .int .u32 m0, .int .u32 m1, .int .u32 m2]) := Below.setCells hB0 Rw [.int .u32 1634760805, .int .u32 857760878, .int .u32 2036477234, .int .u32 1797285236, .int .u32 k0, .int .u32 k1, .int .u32 k2, .int .u32 k3, .int .u32 k4, .int .u32 k5, .int .u32 k6, .int .u32 k7, .int .u32 c, .int .u32 m0, .int .u32 m1, .int .u32 m2] 0
  clear HR HS HK HM hB0
  generalize (w2.setCells R 0 [.int .u32 1634760805, .int .u32 857760878, .int .u32 2036477234, .int .u32 1797285236, .int .u32 k0, .int .u32 k1, .int .u32 k2, .int .u32 k3, .int .u32 k4, .int .u32 k5, .int .u32 k6, .int .u32 k7, .int .u32 c, .int .u32 m0, .int .u32 m1, .int .u32 m2]) = w3 at *
  have HR := HRn
  clear HRn
  have HS := HSn
  clear HSn
  have HK := HKn
  clear HKn
  have HM := HMn
  clear HMn
  have hB0 := hB0n
  clear hB0n
  go_wp2_with (fail)
  have hL := run_loadVar_mid (P := Tryd.prog) _ R 0 50 ([.int .u32 1634760805, .int .u32 857760878, .int .u32 2036477234, .int .u32 1797285236, .int .u32 k0, .int .u32 k1, .int .u32 k2, .int .u32 k3, .int .u32 k4, .int .u32 k5, .int .u32 k6, .int .u32 k7, .int .u32 c, .int .u32 m0, .int .u32 m1, .int .u32 m2]) _ HR.out.cell Tryd.underlying50 rfl (by kernel_rfl)
  exact bodyPost_ret (v := .agg ([.int .u32 1634760805, .int .u32 857760878, .int .u32 2036477234, .int .u32 1797285236, .int .u32 k0, .int .u32 k1, .int .u32 k2, .int .u32 k3, .int .u32 k4, .int .u32 k5, .int .u32 k6, .int .u32 k7, .int .u32 c, .int .u32 m0, .int .u32 m1, .int .u32 m2]).toArray) (res_cell Tryd.results32 rfl hL) rfl ⟨rfl, hB0⟩
end Go.Proofs.YtjkeaiihjbcfgaaDoor
