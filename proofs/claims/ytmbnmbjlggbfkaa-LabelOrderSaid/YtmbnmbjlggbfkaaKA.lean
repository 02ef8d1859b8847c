/- My own small kit: blocks that are known whole; a rule for a region that draws its order, by an invariant: one goal an operation, whatever the order. -/
import Derived.WalkKit
import Derived.Below
import Derived.Deep.RegionHeld3
import Derived.Deep.MidRow
import Derived.WalkLawsBesides
import Derived.Laws.AppendOwn
import Derived.Laws.IdiomCopy
import Derived.Lib.Hide
namespace Go.Proofs.Ytmbnmbjlggbfkaa
set_option linter.unusedVariables false
set_option maxRecDepth 2000
set_option linter.unusedSimpArgs false
open Go.RowKit

/-- block b holds these values from offset o on -/
structure Has (b o : Nat) (cs : List Value) (W : World) : Prop where
  lt : b < W.heap.size
  cell : W.rangeAt b o cs
/-- block b holds these values from its head on, and may be written -/
structure Own (b : Nat) (cs : List Value) (W : World) : Prop where
  lt : b < W.heap.size
  cell : W.rangeAt b 0 cs
  free : W.there b 0 cs.length

theorem Has.at {b o : Nat} {cs : List Value} {W : World} (h : Has b o cs W) (i : Nat) (v : Value) (hv : cs[i]? = some v) : W.cell? ⟨b, o + i, none⟩ = some v := h.cell i v hv
theorem Own.at {b : Nat} {cs : List Value} {W : World} (h : Own b cs W) (i : Nat) (v : Value) (hv : cs[i]? = some v) : W.cell? ⟨b, i, none⟩ = some v := by
  have := h.cell i v hv
  rwa [Nat.zero_add] at this
theorem Own.ok {b : Nat} {cs : List Value} {W : World} (h : Own b cs W) (i : Nat) (hi : i < cs.length) : W.frozen? ⟨b, i, none⟩ = false := by
  have := (h.free i hi).2
  rwa [Nat.zero_add] at this
theorem Own.has {b : Nat} {cs : List Value} {W : World} (h : Own b cs W) : Has b 0 cs W := ⟨h.lt, h.cell⟩
theorem Has.later {b o : Nat} {cs : List Value} {W W' : World} (h : Has b o cs W) (hb : Below W.heap.size W W') : Has b o cs W' where
  lt := Nat.lt_of_lt_of_le h.lt hb.size
  cell := fun j v hv => by rw [hb.cell (p := ⟨b, o + j, none⟩) h.lt]; exact h.cell j v hv
theorem Has.below {B b o : Nat} {cs : List Value} {W W' : World} (h : Has b o cs W) (hb : Below B W W') (hB : b < B) : Has b o cs W' where
  lt := Nat.lt_of_lt_of_le h.lt hb.size
  cell := fun j v hv => by rw [hb.cell (p := ⟨b, o + j, none⟩) hB]; exact h.cell j v hv
theorem Own.later {b : Nat} {cs : List Value} {W W' : World} (h : Own b cs W) (hb : Below W.heap.size W W') : Own b cs W' where
  lt := Nat.lt_of_lt_of_le h.lt hb.size
  cell := fun j v hv => by rw [hb.cell (p := ⟨b, 0 + j, none⟩) h.lt]; exact h.cell j v hv
  free := fun j hj => by rw [hb.cell (p := ⟨b, 0 + j, none⟩) h.lt, hb.frozen (p := ⟨b, 0 + j, none⟩) h.lt]; exact h.free j hj
theorem Own.alloc {b : Nat} {cs : List Value} {W : World} {o : Obj} (h : Own b cs W) : Own b cs (W.alloc o) := h.later ((Below.refl _ _).alloc (Nat.le_refl _) _)
theorem Own.drew {b : Nat} {cs : List Value} {W : World} (h : Own b cs W) : Own b cs W.drew := h.later (Below.refl _ _).drew
theorem Has.alloc {b i : Nat} {cs : List Value} {W : World} {o : Obj} (h : Has b i cs W) : Has b i cs (W.alloc o) := h.later ((Below.refl _ _).alloc (Nat.le_refl _) _)
theorem Has.drew {b o : Nat} {cs : List Value} {W : World} (h : Has b o cs W) : Has b o cs W.drew := h.later (Below.refl _ _).drew
theorem Own.new (W : World) (cs : List Value) (T : TypeId) : Own W.heap.size cs (W.alloc (.cells cs.toArray T)) where
  lt := by simp
  cell := fun j v hv => by
    rw [Nat.zero_add, World.cell?_alloc_new]
    simpa using hv
  free := fun j hj => by
    constructor
    · rw [Nat.zero_add, World.cell?_alloc_new]
      simp [hj]
    · rw [Nat.zero_add, World.frozen?_alloc_new]
theorem Own.newAt {b : Nat} {W : World} {cs : Array Value} {T : TypeId} (h : b = W.heap.size) : Own b cs.toList (W.alloc (.cells cs T)) := by
  subst h
  have := Own.new W cs.toList T
  simpa using this
theorem Own.store {b : Nat} {cs vs : List Value} {W : World} (h : Own b cs W) (hl : vs.length = cs.length) : Own b vs (W.setCells b 0 vs) where
  lt := by
    have : (W.setCells b 0 vs).heap.size = W.heap.size := by
      have k : ∀ (l : List Value) (o : Nat) (w : World), (w.setCells b o l).heap.size = w.heap.size := by
        intro l
        induction l with
        | nil => intro o w; rfl
        | cons v r ih => intro o w; rw [World.setCells, ih]; simp [World.setCell]
      exact k vs 0 W
    rw [this]; exact h.lt
  cell := World.rangeAt_setCells_same _ _ _ _ (by rw [hl]; exact h.free)
  free := World.there_setCells (by rw [hl]; exact h.free) _ _ _
theorem size_setCells (b : Nat) : ∀ (l : List Value) (o : Nat) (w : World), (w.setCells b o l).heap.size = w.heap.size
  | [], _, _ => rfl
  | v :: r, o, w => by rw [World.setCells, size_setCells b r]; simp [World.setCell]
theorem Own.far {b c o : Nat} {cs vs : List Value} {W : World} (h : Own b cs W) (hn : b ≠ c) : Own b cs (W.setCells c o vs) where
  lt := by rw [size_setCells]; exact h.lt
  cell := World.rangeAt_setCells_apart h.cell _ _ _ (.inl hn)
  free := World.there_setCells h.free _ _ _
theorem Has.far {b c i o : Nat} {cs vs : List Value} {W : World} (h : Has b i cs W) (hn : b ≠ c) : Has b i cs (W.setCells c o vs) where
  lt := by rw [size_setCells]; exact h.lt
  cell := World.rangeAt_setCells_apart h.cell _ _ _ (.inl hn)
/-- values written over a list from o on -/
def over (cs : List Value) (o : Nat) (vs : List Value) : List Value := cs.take o ++ vs ++ cs.drop (o + vs.length)
theorem over_length (cs : List Value) (o : Nat) (vs : List Value) (h : o + vs.length ≤ cs.length) : (over cs o vs).length = cs.length := by
  simp [over]; omega
theorem Own.part {b o : Nat} {cs vs : List Value} {W : World} (h : Own b cs W) (hl : o + vs.length ≤ cs.length) : Own b (over cs o vs) (W.setCells b o vs) where
  lt := by rw [size_setCells]; exact h.lt
  cell := fun j v hv => by
    have tv : W.there b o vs.length := fun i hi => by
      have := h.free (o + i) (by omega)
      rwa [Nat.zero_add] at this
    by_cases h1 : j < o
    · rw [World.cell?_setCells_out b vs o W ⟨b, 0 + j, none⟩ (fun _ _ => .inl (by show 0 + j < o; omega))]
      refine h.cell j v ?_
      rw [← hv]
      simp only [over, List.append_assoc]
      rw [List.getElem?_append_left (by simp; omega), List.getElem?_take_of_lt h1]
    · by_cases h2 : j < o + vs.length
      · have := World.rangeAt_setCells_same W b o vs tv (j - o) v (by
          rw [← hv]
          simp only [over, List.append_assoc]
          rw [List.getElem?_append_right (by simp; omega), List.length_take, Nat.min_eq_left (by omega), List.getElem?_append_left (by omega)])
        rwa [show o + (j - o) = 0 + j by omega] at this
      · rw [World.cell?_setCells_out b vs o W ⟨b, 0 + j, none⟩ (fun _ _ => .inr (by show o + vs.length ≤ 0 + j; omega))]
        refine h.cell j v ?_
        rw [← hv]
        simp only [over]
        rw [List.getElem?_append_right (by simp; omega), List.getElem?_drop]
        congr 1
        simp
        omega
  free := by rw [over_length cs o vs hl]; exact World.there_setCells h.free _ _ _
theorem Below.setCells {B : Nat} {a w : World} (h : Below B a w) {b : Nat} (hp : B ≤ b) : ∀ (vs : List Value) (o : Nat), Below B a (w.setCells b o vs) := fun vs => by
  induction vs generalizing w with
  | nil => intro o; exact h
  | cons v r ih => intro o; rw [World.setCells]; exact ih (h.setCell (p := ⟨b, o, none⟩) hp v) _
theorem Below.al {a w : World} {o : Obj} (h : Below a.heap.size a w) : Below a.heap.size a (w.alloc o) := h.alloc h.size o
/-- a step behind steps -/
theorem Below.next {B : Nat} {a w w' : World} (h : Below B a w) (k : Below w.heap.size w w') (hB : B ≤ w.heap.size) : Below B a w' := h.trans (k.mono hB)
theorem Below.go {a w w' : World} (h : Below a.heap.size a w) (k : Below w.heap.size w w') : Below a.heap.size a w' := h.trans (k.mono h.size)

/-! ### append to a row of the call's own -/
theorem Own.grown {b : Nat} {cs : List Value} {W W' : World} {row : Option Nat} (h : Own b cs W) (hg : W.grownBy W' row) (hr : row ≠ some b) : Own b cs W' where
  lt := Nat.lt_of_lt_of_le h.lt hg.size
  cell := fun j v hv => by rw [World.cell?_of_block (w := W) (a := ⟨b, 0 + j, none⟩) (hg.block b h.lt hr.symm)]; exact h.cell j v hv
  free := fun j hj => by
    rw [World.cell?_of_block (w := W) (a := ⟨b, 0 + j, none⟩) (hg.block b h.lt hr.symm), World.frozen?_of_block (w := W) (a := ⟨b, 0 + j, none⟩) (hg.block b h.lt hr.symm)]
    exact h.free j hj
theorem Has.grown {b o : Nat} {cs : List Value} {W W' : World} {row : Option Nat} (h : Has b o cs W) (hg : W.grownBy W' row) (hr : row ≠ some b) : Has b o cs W' where
  lt := Nat.lt_of_lt_of_le h.lt hg.size
  cell := fun j v hv => by rw [World.cell?_of_block (w := W) (a := ⟨b, o + j, none⟩) (hg.block b h.lt hr.symm)]; exact h.cell j v hv
theorem row_ne {w : World} {base size n b : Nat} {e : TypeId} {v : Value} {xs : List Value} (h : w.ownsRow base e size v n xs) (hb : b < base) : v.ownBlock ≠ some b := by
  rcases h.2 with ⟨rfl, _⟩ | ⟨g, cap, cur, rfl, hg, _⟩
  · simp [Value.ownBlock]
  · simp [Value.ownBlock]; omega
theorem row_ge {w : World} {base size n : Nat} {e : TypeId} {v : Value} {xs : List Value} (h : w.ownsRow base e size v n xs) : ∀ k, v.ownBlock = some k → base ≤ k := by
  intro k hk
  rcases h.2 with ⟨rfl, _⟩ | ⟨g, cap, cur, rfl, hg, _⟩
  · simp [Value.ownBlock] at hk
  · simp [Value.ownBlock] at hk; omega
theorem row_later {w w' : World} {base size n : Nat} {e : TypeId} {v : Value} {xs : List Value} (h : w.ownsRow base e size v n xs) (hb : Below w.heap.size w w') : w'.ownsRow base e size v n xs := by
  refine ⟨h.1, ?_⟩
  rcases h.2 with h0 | ⟨g, cap, cur, hv, hg, hh, r⟩
  · exact .inl h0
  · refine .inr ⟨g, cap, cur, hv, hg, ?_, r⟩
    rw [hb.block g (Array.getElem?_eq_some_iff.1 hh).1]; exact hh
theorem row_has {w : World} {base size n g cap : Nat} {e : TypeId} {xs : List Value} (h : w.ownsRow base e size (.slice (some ⟨g, 0, none⟩) n cap) n xs) : Has g 0 xs w ∧ base ≤ g ∧ n ≤ cap ∧ cap ≤ maxLen := by
  rcases h.2 with ⟨h0, _⟩ | ⟨g', cap', cur, hv, hg, hh, h1, h2, h3, h4⟩
  · cases h0
  · cases hv
    refine ⟨⟨(Array.getElem?_eq_some_iff.1 hh).1, fun j v hj => ?_⟩, hg, h1, h2⟩
    rw [cell_of_row w g (0 + j) cur e (0, 0) hh, Nat.zero_add]
    rw [← h4] at hj
    rw [List.getElem?_take] at hj
    split at hj
    · simpa using hj
    · cases hj
/-- AS ONE STEP OF A REGION THAT DRAWS ITS ORDER: what is laid goes behind the call's own row. -/
theorem step_append_to {P : Program} {ops : Array Oper} {o : Oper} {a : Act} {w : World} {K : Act → World → Prop} {Q : Exit → Act → World → Prop} {E : Prop}
    (hg : o.guard = none) (s x : Operand) (t : TypeId) (hop : o.op = Op.call { callee := Callee.builtin Builtin.append, args := #[s, x], argTypes := #[t, t] })
    (e : TypeId) (i : TypeInfo) (z : Value) (size bytes : Nat) (h1 : P.underlying t = some (.slice e)) (h2 : P.info? e = some i) (h3 : i.zero = some z) (h4 : i.size = size) (h5 : i.bytes = bytes) (h6 : z.cells.size = size) (h7 : 0 < size)
    (base : Nat) (v : Value) (n : Nat) (xs : List Value) (hs : a.eval s = v) (hown : w.ownsRow base e size v n xs)
    (ad : Addr) (m c : Nat) (news : List Value) (hx : a.eval x = .slice (some ad) m c) (hn : news.length = m * size) (hc : ∀ j u, news[j]? = some u → w.cell? (ad.add j) = some u) (h1c : ∀ u ∈ news, u.oneCell' = true)
    (b1 : n + m ≤ maxLen) (b2 : (n + m) * bytes ≤ 140737488355328) (hb : base ≤ w.heap.size)
    (hK : ∀ v' w', w'.ownsRow base e size v' (n + m) (xs ++ news) → w.grownBy w' v.ownBlock → K (a.put o.dst v') w') :
    if Region.wanted o (yielded ops a.tmps) = true then Oper.wp P o a w K Q else E := by
  have hw : Region.wanted o (yielded ops a.tmps) = true := by simp [Region.wanted, hg]
  rw [if_pos hw]
  obtain ⟨v', w', hrun, r1, r2, _⟩ := run_append_own (P := P) w base t o.type e i z size bytes h1 h2 h3 h4 h5 h6 h7 v n xs hown ad m c news hn hc h1c b1 b2 hb
  unfold Oper.wp
  simp [execOp, hop, resolve, invoke, builtin, hs, hx, hrun, Result.andThen]
  exact hK v' w' r1 r2
/-- the cells of a block that is known whole, as an append asks them -/
theorem Own.news {b : Nat} {cs : List Value} {W : World} (h : Own b cs W) : ∀ j u, cs[j]? = some u → W.cell? ((⟨b, 0, none⟩ : Addr).add j) = some u := fun j u hj => by
  rw [Addr.add_mid, Nat.zero_add]; exact h.at j u hj
/-- the call's own rows lie behind what was there -/
theorem Below.gro {a w w' : World} {base n size : Nat} {e : TypeId} {v : Value} {xs : List Value} (h : Below a.heap.size a w) (hg : w.grownBy w' v.ownBlock) (ho : w.ownsRow base e size v n xs) (hb : a.heap.size ≤ base) : Below a.heap.size a w' :=
  h.grown hg h.size fun k hk => Nat.le_trans hb (row_ge ho k hk)

/-! ### copy, whatever the elements' size -/
theorem run_copy_rows {P : Program} (w : World) (dT sT ty elem S : Nat) (b o dLen dCap : Nat) (a : Addr) (sLen sCap : Nat) (cs : List Value)
    (hu : P.underlying dT = some (.slice elem)) (hs : (P.info? elem).map (·.size) = some S) (hn : cs.length = Nat.min sLen dLen * S)
    (hsrc : ∀ j v, cs[j]? = some v → w.cell? (a.add j) = some v) (hc : w.there b o cs.length) (h1 : ∀ v ∈ cs, v.oneCell' = true) :
    (Builtin.copy_ #[dT, sT] ty #[.slice (some ⟨b, o, none⟩) dLen dCap, .slice (some a) sLen sCap]).run P w = .ok (goInt (Nat.min sLen dLen)) (w.setCells b o cs) := by
  have hl := run_loadCells_list (P := P) w a cs hsrc
  have hst := run_storeCells_cells (P := P) b o cs 0 w (fun j hj => by simpa using (hc j hj).1) (fun j hj => by simpa using (hc j hj).2) h1
  cases hq : P.info? elem with
  | none => simp [hq] at hs
  | some i =>
    have hi : i.size = S := by simpa [hq] using hs
    simp [Builtin.copy_, run_underlying hu, Builtin.lenOf, Builtin.firstCells, sizeOf, typeInfo, hq, hi, ← hn, hl, hst]
theorem run_copy_zero {P : Program} (w : World) (dT sT ty elem S : Nat) (d a : Option Addr) (dLen dCap sLen sCap : Nat) (hu : P.underlying dT = some (.slice elem)) (hs : (P.info? elem).map (·.size) = some S) (hn : Nat.min sLen dLen = 0) :
    (Builtin.copy_ #[dT, sT] ty #[.slice d dLen dCap, .slice a sLen sCap]).run P w = .ok (goInt 0) w := by
  cases hq : P.info? elem with
  | none => simp [hq] at hs
  | some i =>
    have hl : ∀ (x : Addr), (loadCells x 0).run P w = .ok #[] w := fun x => by simpa using run_loadCells_list (P := P) w x [] (by simp)
    cases d <;> cases a <;> simp [Builtin.copy_, run_underlying hu, Builtin.lenOf, Builtin.firstCells, sizeOf, typeInfo, hq, hn, storeCells, hl]

/-! ### min and max of three, behind a name: the walk does not part at them -/
def mn3 (x y z : Int) : Int := if z < (if y < x then y else x) then z else (if y < x then y else x)
def mx3 (x y z : Int) : Int := if (if x < y then y else x) < z then z else (if x < y then y else x)
theorem mn3_lt (x y z c : Int) : mn3 x y z < c ↔ x < c ∨ y < c ∨ z < c := by unfold mn3; split <;> split <;> omega
theorem mx3_gt (x y z c : Int) : c < mx3 x y z ↔ c < x ∨ c < y ∨ c < z := by unfold mx3; split <;> split <;> omega
theorem run_mn3 {P : Program} {w : World} (ts : Array TypeId) (t : TypeId) (k k' k'' : IntKind) (x y z : Int) : (Builtin.min_ ts t #[.int k x, .int k' y, .int k'' z]).run P w = .ok (.int k (mn3 x y z)) w := by
  rw [run_min_int3]; rfl
theorem run_mx3 {P : Program} {w : World} (ts : Array TypeId) (t : TypeId) (k k' k'' : IntKind) (x y z : Int) : (Builtin.max_ ts t #[.int k x, .int k' y, .int k'' z]).run P w = .ok (.int k (mx3 x y z)) w := by
  rw [run_max_int3]; rfl

/-! ### the limbs of a long 'and' -/
section
variable {a b c d e f g i j k l m n o p q r s t u v w x y z A B C D E F G H I J K L M N O R S T U V W X Y Z a0 a1 a2 a3 a4 a5 a6 a7 a8 a9 b0 h1 h2 : Prop}
theorem p0_ (h : a∧h1) : a := h.1
theorem p1_ (h : a∧b∧h1) : b := h.2.1
theorem q1_ (h : a∧b) : b := h.2
theorem p2_ (h : a∧b∧c∧h1) : c := h.2.2.1
theorem q2_ (h : a∧b∧c) : c := h.2.2
theorem p3_ (h : a∧b∧c∧d∧h1) : d := h.2.2.2.1
theorem q3_ (h : a∧b∧c∧d) : d := h.2.2.2
theorem p4_ (h : a∧b∧c∧d∧e∧h1) : e := h.2.2.2.2.1
theorem q4_ (h : a∧b∧c∧d∧e) : e := h.2.2.2.2
theorem p5_ (h : a∧b∧c∧d∧e∧f∧h1) : f := h.2.2.2.2.2.1
theorem q5_ (h : a∧b∧c∧d∧e∧f) : f := h.2.2.2.2.2
theorem p6_ (h : a∧b∧c∧d∧e∧f∧g∧h1) : g := h.2.2.2.2.2.2.1
theorem q6_ (h : a∧b∧c∧d∧e∧f∧g) : g := h.2.2.2.2.2.2
theorem p7_ (h : a∧b∧c∧d∧e∧f∧g∧i∧h1) : i := h.2.2.2.2.2.2.2.1
theorem q7_ (h : a∧b∧c∧d∧e∧f∧g∧i) : i := h.2.2.2.2.2.2.2
theorem p8_ (h : a∧b∧c∧d∧e∧f∧g∧i∧j∧h1) : j := h.2.2.2.2.2.2.2.2.1
theorem q8_ (h : a∧b∧c∧d∧e∧f∧g∧i∧j) : j := h.2.2.2.2.2.2.2.2
theorem p9_ (h : a∧b∧c∧d∧e∧f∧g∧i∧j∧k∧h1) : k := h.2.2.2.2.2.2.2.2.2.1
theorem q9_ (h : a∧b∧c∧d∧e∧f∧g∧i∧j∧k) : k := h.2.2.2.2.2.2.2.2.2
theorem p10_ (h : a∧b∧c∧d∧e∧f∧g∧i∧j∧k∧l∧h1) : l := h.2.2.2.2.2.2.2.2.2.2.1
theorem q10_ (h : a∧b∧c∧d∧e∧f∧g∧i∧j∧k∧l) : l := h.2.2.2.2.2.2.2.2.2.2
theorem p11_ (h : a∧b∧c∧d∧e∧f∧g∧i∧j∧k∧l∧m∧h1) : m := h.2.2.2.2.2.2.2.2.2.2.2.1
theorem q11_ (h : a∧b∧c∧d∧e∧f∧g∧i∧j∧k∧l∧m) : m := h.2.2.2.2.2.2.2.2.2.2.2
theorem p12_ (h : a∧b∧c∧d∧e∧f∧g∧i∧j∧k∧l∧m∧n∧h1) : n := h.2.2.2.2.2.2.2.2.2.2.2.2.1
theorem q12_ (h : a∧b∧c∧d∧e∧f∧g∧i∧j∧k∧l∧m∧n) : n := h.2.2.2.2.2.2.2.2.2.2.2.2
theorem p13_ (h : a∧b∧c∧d∧e∧f∧g∧i∧j∧k∧l∧m∧n∧o∧h1) : o := h.2.2.2.2.2.2.2.2.2.2.2.2.2.1
theorem q13_ (h : a∧b∧c∧d∧e∧f∧g∧i∧j∧k∧l∧m∧n∧o) : o := h.2.2.2.2.2.2.2.2.2.2.2.2.2
theorem p14_ (h : a∧b∧c∧d∧e∧f∧g∧i∧j∧k∧l∧m∧n∧o∧p∧h1) : p := h.2.2.2.2.2.2.2.2.2.2.2.2.2.2.1
theorem q14_ (h : a∧b∧c∧d∧e∧f∧g∧i∧j∧k∧l∧m∧n∧o∧p) : p := h.2.2.2.2.2.2.2.2.2.2.2.2.2.2
theorem p15_ (h : a∧b∧c∧d∧e∧f∧g∧i∧j∧k∧l∧m∧n∧o∧p∧q∧h1) : q := h.2.2.2.2.2.2.2.2.2.2.2.2.2.2.2.1
theorem q15_ (h : a∧b∧c∧d∧e∧f∧g∧i∧j∧k∧l∧m∧n∧o∧p∧q) : q := h.2.2.2.2.2.2.2.2.2.2.2.2.2.2.2
theorem p16_ (h : a∧b∧c∧d∧e∧f∧g∧i∧j∧k∧l∧m∧n∧o∧p∧q∧r∧h1) : r := h.2.2.2.2.2.2.2.2.2.2.2.2.2.2.2.2.1
theorem q16_ (h : a∧b∧c∧d∧e∧f∧g∧i∧j∧k∧l∧m∧n∧o∧p∧q∧r) : r := h.2.2.2.2.2.2.2.2.2.2.2.2.2.2.2.2
theorem p17_ (h : a∧b∧c∧d∧e∧f∧g∧i∧j∧k∧l∧m∧n∧o∧p∧q∧r∧s∧h1) : s := h.2.2.2.2.2.2.2.2.2.2.2.2.2.2.2.2.2.1
theorem q17_ (h : a∧b∧c∧d∧e∧f∧g∧i∧j∧k∧l∧m∧n∧o∧p∧q∧r∧s) : s := h.2.2.2.2.2.2.2.2.2.2.2.2.2.2.2.2.2
theorem p18_ (h : a∧b∧c∧d∧e∧f∧g∧i∧j∧k∧l∧m∧n∧o∧p∧q∧r∧s∧t∧h1) : t := h.2.2.2.2.2.2.2.2.2.2.2.2.2.2.2.2.2.2.1
theorem q18_ (h : a∧b∧c∧d∧e∧f∧g∧i∧j∧k∧l∧m∧n∧o∧p∧q∧r∧s∧t) : t := h.2.2.2.2.2.2.2.2.2.2.2.2.2.2.2.2.2.2
theorem p19_ (h : a∧b∧c∧d∧e∧f∧g∧i∧j∧k∧l∧m∧n∧o∧p∧q∧r∧s∧t∧u∧h1) : u := h.2.2.2.2.2.2.2.2.2.2.2.2.2.2.2.2.2.2.2.1
theorem q19_ (h : a∧b∧c∧d∧e∧f∧g∧i∧j∧k∧l∧m∧n∧o∧p∧q∧r∧s∧t∧u) : u := h.2.2.2.2.2.2.2.2.2.2.2.2.2.2.2.2.2.2.2
theorem p20_ (h : a∧b∧c∧d∧e∧f∧g∧i∧j∧k∧l∧m∧n∧o∧p∧q∧r∧s∧t∧u∧v∧h1) : v := h.2.2.2.2.2.2.2.2.2.2.2.2.2.2.2.2.2.2.2.2.1
theorem q20_ (h : a∧b∧c∧d∧e∧f∧g∧i∧j∧k∧l∧m∧n∧o∧p∧q∧r∧s∧t∧u∧v) : v := h.2.2.2.2.2.2.2.2.2.2.2.2.2.2.2.2.2.2.2.2
theorem p21_ (h : a∧b∧c∧d∧e∧f∧g∧i∧j∧k∧l∧m∧n∧o∧p∧q∧r∧s∧t∧u∧v∧w∧h1) : w := h.2.2.2.2.2.2.2.2.2.2.2.2.2.2.2.2.2.2.2.2.2.1
theorem q21_ (h : a∧b∧c∧d∧e∧f∧g∧i∧j∧k∧l∧m∧n∧o∧p∧q∧r∧s∧t∧u∧v∧w) : w := h.2.2.2.2.2.2.2.2.2.2.2.2.2.2.2.2.2.2.2.2.2
theorem p22_ (h : a∧b∧c∧d∧e∧f∧g∧i∧j∧k∧l∧m∧n∧o∧p∧q∧r∧s∧t∧u∧v∧w∧x∧h1) : x := h.2.2.2.2.2.2.2.2.2.2.2.2.2.2.2.2.2.2.2.2.2.2.1
theorem q22_ (h : a∧b∧c∧d∧e∧f∧g∧i∧j∧k∧l∧m∧n∧o∧p∧q∧r∧s∧t∧u∧v∧w∧x) : x := h.2.2.2.2.2.2.2.2.2.2.2.2.2.2.2.2.2.2.2.2.2.2
theorem p23_ (h : a∧b∧c∧d∧e∧f∧g∧i∧j∧k∧l∧m∧n∧o∧p∧q∧r∧s∧t∧u∧v∧w∧x∧y∧h1) : y := h.2.2.2.2.2.2.2.2.2.2.2.2.2.2.2.2.2.2.2.2.2.2.2.1
theorem q23_ (h : a∧b∧c∧d∧e∧f∧g∧i∧j∧k∧l∧m∧n∧o∧p∧q∧r∧s∧t∧u∧v∧w∧x∧y) : y := h.2.2.2.2.2.2.2.2.2.2.2.2.2.2.2.2.2.2.2.2.2.2.2
theorem p24_ (h : a∧b∧c∧d∧e∧f∧g∧i∧j∧k∧l∧m∧n∧o∧p∧q∧r∧s∧t∧u∧v∧w∧x∧y∧z∧h1) : z := h.2.2.2.2.2.2.2.2.2.2.2.2.2.2.2.2.2.2.2.2.2.2.2.2.1
theorem q24_ (h : a∧b∧c∧d∧e∧f∧g∧i∧j∧k∧l∧m∧n∧o∧p∧q∧r∧s∧t∧u∧v∧w∧x∧y∧z) : z := h.2.2.2.2.2.2.2.2.2.2.2.2.2.2.2.2.2.2.2.2.2.2.2.2
theorem p25_ (h : a∧b∧c∧d∧e∧f∧g∧i∧j∧k∧l∧m∧n∧o∧p∧q∧r∧s∧t∧u∧v∧w∧x∧y∧z∧A∧h1) : A := h.2.2.2.2.2.2.2.2.2.2.2.2.2.2.2.2.2.2.2.2.2.2.2.2.2.1
theorem q25_ (h : a∧b∧c∧d∧e∧f∧g∧i∧j∧k∧l∧m∧n∧o∧p∧q∧r∧s∧t∧u∧v∧w∧x∧y∧z∧A) : A := h.2.2.2.2.2.2.2.2.2.2.2.2.2.2.2.2.2.2.2.2.2.2.2.2.2
theorem p26_ (h : a∧b∧c∧d∧e∧f∧g∧i∧j∧k∧l∧m∧n∧o∧p∧q∧r∧s∧t∧u∧v∧w∧x∧y∧z∧A∧B∧h1) : B := h.2.2.2.2.2.2.2.2.2.2.2.2.2.2.2.2.2.2.2.2.2.2.2.2.2.2.1
theorem q26_ (h : a∧b∧c∧d∧e∧f∧g∧i∧j∧k∧l∧m∧n∧o∧p∧q∧r∧s∧t∧u∧v∧w∧x∧y∧z∧A∧B) : B := h.2.2.2.2.2.2.2.2.2.2.2.2.2.2.2.2.2.2.2.2.2.2.2.2.2.2
theorem p27_ (h : a∧b∧c∧d∧e∧f∧g∧i∧j∧k∧l∧m∧n∧o∧p∧q∧r∧s∧t∧u∧v∧w∧x∧y∧z∧A∧B∧C∧h1) : C := h.2.2.2.2.2.2.2.2.2.2.2.2.2.2.2.2.2.2.2.2.2.2.2.2.2.2.2.1
theorem q27_ (h : a∧b∧c∧d∧e∧f∧g∧i∧j∧k∧l∧m∧n∧o∧p∧q∧r∧s∧t∧u∧v∧w∧x∧y∧z∧A∧B∧C) : C := h.2.2.2.2.2.2.2.2.2.2.2.2.2.2.2.2.2.2.2.2.2.2.2.2.2.2.2
theorem p28_ (h : a∧b∧c∧d∧e∧f∧g∧i∧j∧k∧l∧m∧n∧o∧p∧q∧r∧s∧t∧u∧v∧w∧x∧y∧z∧A∧B∧C∧D∧h1) : D := h.2.2.2.2.2.2.2.2.2.2.2.2.2.2.2.2.2.2.2.2.2.2.2.2.2.2.2.2.1
theorem q28_ (h : a∧b∧c∧d∧e∧f∧g∧i∧j∧k∧l∧m∧n∧o∧p∧q∧r∧s∧t∧u∧v∧w∧x∧y∧z∧A∧B∧C∧D) : D := h.2.2.2.2.2.2.2.2.2.2.2.2.2.2.2.2.2.2.2.2.2.2.2.2.2.2.2.2
theorem p29_ (h : a∧b∧c∧d∧e∧f∧g∧i∧j∧k∧l∧m∧n∧o∧p∧q∧r∧s∧t∧u∧v∧w∧x∧y∧z∧A∧B∧C∧D∧E∧h1) : E := h.2.2.2.2.2.2.2.2.2.2.2.2.2.2.2.2.2.2.2.2.2.2.2.2.2.2.2.2.2.1
theorem q29_ (h : a∧b∧c∧d∧e∧f∧g∧i∧j∧k∧l∧m∧n∧o∧p∧q∧r∧s∧t∧u∧v∧w∧x∧y∧z∧A∧B∧C∧D∧E) : E := h.2.2.2.2.2.2.2.2.2.2.2.2.2.2.2.2.2.2.2.2.2.2.2.2.2.2.2.2.2
theorem p30_ (h : a∧b∧c∧d∧e∧f∧g∧i∧j∧k∧l∧m∧n∧o∧p∧q∧r∧s∧t∧u∧v∧w∧x∧y∧z∧A∧B∧C∧D∧E∧F∧h1) : F := h.2.2.2.2.2.2.2.2.2.2.2.2.2.2.2.2.2.2.2.2.2.2.2.2.2.2.2.2.2.2.1
theorem q30_ (h : a∧b∧c∧d∧e∧f∧g∧i∧j∧k∧l∧m∧n∧o∧p∧q∧r∧s∧t∧u∧v∧w∧x∧y∧z∧A∧B∧C∧D∧E∧F) : F := h.2.2.2.2.2.2.2.2.2.2.2.2.2.2.2.2.2.2.2.2.2.2.2.2.2.2.2.2.2.2
theorem p31_ (h : a∧b∧c∧d∧e∧f∧g∧i∧j∧k∧l∧m∧n∧o∧p∧q∧r∧s∧t∧u∧v∧w∧x∧y∧z∧A∧B∧C∧D∧E∧F∧G∧h1) : G := h.2.2.2.2.2.2.2.2.2.2.2.2.2.2.2.2.2.2.2.2.2.2.2.2.2.2.2.2.2.2.2.1
theorem q31_ (h : a∧b∧c∧d∧e∧f∧g∧i∧j∧k∧l∧m∧n∧o∧p∧q∧r∧s∧t∧u∧v∧w∧x∧y∧z∧A∧B∧C∧D∧E∧F∧G) : G := h.2.2.2.2.2.2.2.2.2.2.2.2.2.2.2.2.2.2.2.2.2.2.2.2.2.2.2.2.2.2.2
theorem p32_ (h : a∧b∧c∧d∧e∧f∧g∧i∧j∧k∧l∧m∧n∧o∧p∧q∧r∧s∧t∧u∧v∧w∧x∧y∧z∧A∧B∧C∧D∧E∧F∧G∧H∧h1) : H := h.2.2.2.2.2.2.2.2.2.2.2.2.2.2.2.2.2.2.2.2.2.2.2.2.2.2.2.2.2.2.2.2.1
theorem q32_ (h : a∧b∧c∧d∧e∧f∧g∧i∧j∧k∧l∧m∧n∧o∧p∧q∧r∧s∧t∧u∧v∧w∧x∧y∧z∧A∧B∧C∧D∧E∧F∧G∧H) : H := h.2.2.2.2.2.2.2.2.2.2.2.2.2.2.2.2.2.2.2.2.2.2.2.2.2.2.2.2.2.2.2.2
theorem p33_ (h : a∧b∧c∧d∧e∧f∧g∧i∧j∧k∧l∧m∧n∧o∧p∧q∧r∧s∧t∧u∧v∧w∧x∧y∧z∧A∧B∧C∧D∧E∧F∧G∧H∧I∧h1) : I := h.2.2.2.2.2.2.2.2.2.2.2.2.2.2.2.2.2.2.2.2.2.2.2.2.2.2.2.2.2.2.2.2.2.1
theorem q33_ (h : a∧b∧c∧d∧e∧f∧g∧i∧j∧k∧l∧m∧n∧o∧p∧q∧r∧s∧t∧u∧v∧w∧x∧y∧z∧A∧B∧C∧D∧E∧F∧G∧H∧I) : I := h.2.2.2.2.2.2.2.2.2.2.2.2.2.2.2.2.2.2.2.2.2.2.2.2.2.2.2.2.2.2.2.2.2
theorem p34_ (h : a∧b∧c∧d∧e∧f∧g∧i∧j∧k∧l∧m∧n∧o∧p∧q∧r∧s∧t∧u∧v∧w∧x∧y∧z∧A∧B∧C∧D∧E∧F∧G∧H∧I∧J∧h1) : J := h.2.2.2.2.2.2.2.2.2.2.2.2.2.2.2.2.2.2.2.2.2.2.2.2.2.2.2.2.2.2.2.2.2.2.1
theorem q34_ (h : a∧b∧c∧d∧e∧f∧g∧i∧j∧k∧l∧m∧n∧o∧p∧q∧r∧s∧t∧u∧v∧w∧x∧y∧z∧A∧B∧C∧D∧E∧F∧G∧H∧I∧J) : J := h.2.2.2.2.2.2.2.2.2.2.2.2.2.2.2.2.2.2.2.2.2.2.2.2.2.2.2.2.2.2.2.2.2.2
theorem p35_ (h : a∧b∧c∧d∧e∧f∧g∧i∧j∧k∧l∧m∧n∧o∧p∧q∧r∧s∧t∧u∧v∧w∧x∧y∧z∧A∧B∧C∧D∧E∧F∧G∧H∧I∧J∧K∧h1) : K := h.2.2.2.2.2.2.2.2.2.2.2.2.2.2.2.2.2.2.2.2.2.2.2.2.2.2.2.2.2.2.2.2.2.2.2.1
theorem q35_ (h : a∧b∧c∧d∧e∧f∧g∧i∧j∧k∧l∧m∧n∧o∧p∧q∧r∧s∧t∧u∧v∧w∧x∧y∧z∧A∧B∧C∧D∧E∧F∧G∧H∧I∧J∧K) : K := h.2.2.2.2.2.2.2.2.2.2.2.2.2.2.2.2.2.2.2.2.2.2.2.2.2.2.2.2.2.2.2.2.2.2.2
theorem p36_ (h : a∧b∧c∧d∧e∧f∧g∧i∧j∧k∧l∧m∧n∧o∧p∧q∧r∧s∧t∧u∧v∧w∧x∧y∧z∧A∧B∧C∧D∧E∧F∧G∧H∧I∧J∧K∧L∧h1) : L := h.2.2.2.2.2.2.2.2.2.2.2.2.2.2.2.2.2.2.2.2.2.2.2.2.2.2.2.2.2.2.2.2.2.2.2.2.1
theorem q36_ (h : a∧b∧c∧d∧e∧f∧g∧i∧j∧k∧l∧m∧n∧o∧p∧q∧r∧s∧t∧u∧v∧w∧x∧y∧z∧A∧B∧C∧D∧E∧F∧G∧H∧I∧J∧K∧L) : L := h.2.2.2.2.2.2.2.2.2.2.2.2.2.2.2.2.2.2.2.2.2.2.2.2.2.2.2.2.2.2.2.2.2.2.2.2
theorem p37_ (h : a∧b∧c∧d∧e∧f∧g∧i∧j∧k∧l∧m∧n∧o∧p∧q∧r∧s∧t∧u∧v∧w∧x∧y∧z∧A∧B∧C∧D∧E∧F∧G∧H∧I∧J∧K∧L∧M∧h1) : M := h.2.2.2.2.2.2.2.2.2.2.2.2.2.2.2.2.2.2.2.2.2.2.2.2.2.2.2.2.2.2.2.2.2.2.2.2.2.1
theorem q37_ (h : a∧b∧c∧d∧e∧f∧g∧i∧j∧k∧l∧m∧n∧o∧p∧q∧r∧s∧t∧u∧v∧w∧x∧y∧z∧A∧B∧C∧D∧E∧F∧G∧H∧I∧J∧K∧L∧M) : M := h.2.2.2.2.2.2.2.2.2.2.2.2.2.2.2.2.2.2.2.2.2.2.2.2.2.2.2.2.2.2.2.2.2.2.2.2.2
theorem p38_ (h : a∧b∧c∧d∧e∧f∧g∧i∧j∧k∧l∧m∧n∧o∧p∧q∧r∧s∧t∧u∧v∧w∧x∧y∧z∧A∧B∧C∧D∧E∧F∧G∧H∧I∧J∧K∧L∧M∧N∧h1) : N := h.2.2.2.2.2.2.2.2.2.2.2.2.2.2.2.2.2.2.2.2.2.2.2.2.2.2.2.2.2.2.2.2.2.2.2.2.2.2.1
theorem q38_ (h : a∧b∧c∧d∧e∧f∧g∧i∧j∧k∧l∧m∧n∧o∧p∧q∧r∧s∧t∧u∧v∧w∧x∧y∧z∧A∧B∧C∧D∧E∧F∧G∧H∧I∧J∧K∧L∧M∧N) : N := h.2.2.2.2.2.2.2.2.2.2.2.2.2.2.2.2.2.2.2.2.2.2.2.2.2.2.2.2.2.2.2.2.2.2.2.2.2.2
theorem p39_ (h : a∧b∧c∧d∧e∧f∧g∧i∧j∧k∧l∧m∧n∧o∧p∧q∧r∧s∧t∧u∧v∧w∧x∧y∧z∧A∧B∧C∧D∧E∧F∧G∧H∧I∧J∧K∧L∧M∧N∧O∧h1) : O := h.2.2.2.2.2.2.2.2.2.2.2.2.2.2.2.2.2.2.2.2.2.2.2.2.2.2.2.2.2.2.2.2.2.2.2.2.2.2.2.1
theorem q39_ (h : a∧b∧c∧d∧e∧f∧g∧i∧j∧k∧l∧m∧n∧o∧p∧q∧r∧s∧t∧u∧v∧w∧x∧y∧z∧A∧B∧C∧D∧E∧F∧G∧H∧I∧J∧K∧L∧M∧N∧O) : O := h.2.2.2.2.2.2.2.2.2.2.2.2.2.2.2.2.2.2.2.2.2.2.2.2.2.2.2.2.2.2.2.2.2.2.2.2.2.2.2
theorem p40_ (h : a∧b∧c∧d∧e∧f∧g∧i∧j∧k∧l∧m∧n∧o∧p∧q∧r∧s∧t∧u∧v∧w∧x∧y∧z∧A∧B∧C∧D∧E∧F∧G∧H∧I∧J∧K∧L∧M∧N∧O∧R∧h1) : R := h.2.2.2.2.2.2.2.2.2.2.2.2.2.2.2.2.2.2.2.2.2.2.2.2.2.2.2.2.2.2.2.2.2.2.2.2.2.2.2.2.1
theorem q40_ (h : a∧b∧c∧d∧e∧f∧g∧i∧j∧k∧l∧m∧n∧o∧p∧q∧r∧s∧t∧u∧v∧w∧x∧y∧z∧A∧B∧C∧D∧E∧F∧G∧H∧I∧J∧K∧L∧M∧N∧O∧R) : R := h.2.2.2.2.2.2.2.2.2.2.2.2.2.2.2.2.2.2.2.2.2.2.2.2.2.2.2.2.2.2.2.2.2.2.2.2.2.2.2.2
theorem p41_ (h : a∧b∧c∧d∧e∧f∧g∧i∧j∧k∧l∧m∧n∧o∧p∧q∧r∧s∧t∧u∧v∧w∧x∧y∧z∧A∧B∧C∧D∧E∧F∧G∧H∧I∧J∧K∧L∧M∧N∧O∧R∧S∧h1) : S := h.2.2.2.2.2.2.2.2.2.2.2.2.2.2.2.2.2.2.2.2.2.2.2.2.2.2.2.2.2.2.2.2.2.2.2.2.2.2.2.2.2.1
theorem q41_ (h : a∧b∧c∧d∧e∧f∧g∧i∧j∧k∧l∧m∧n∧o∧p∧q∧r∧s∧t∧u∧v∧w∧x∧y∧z∧A∧B∧C∧D∧E∧F∧G∧H∧I∧J∧K∧L∧M∧N∧O∧R∧S) : S := h.2.2.2.2.2.2.2.2.2.2.2.2.2.2.2.2.2.2.2.2.2.2.2.2.2.2.2.2.2.2.2.2.2.2.2.2.2.2.2.2.2
theorem p42_ (h : a∧b∧c∧d∧e∧f∧g∧i∧j∧k∧l∧m∧n∧o∧p∧q∧r∧s∧t∧u∧v∧w∧x∧y∧z∧A∧B∧C∧D∧E∧F∧G∧H∧I∧J∧K∧L∧M∧N∧O∧R∧S∧T∧h1) : T := h.2.2.2.2.2.2.2.2.2.2.2.2.2.2.2.2.2.2.2.2.2.2.2.2.2.2.2.2.2.2.2.2.2.2.2.2.2.2.2.2.2.2.1
theorem q42_ (h : a∧b∧c∧d∧e∧f∧g∧i∧j∧k∧l∧m∧n∧o∧p∧q∧r∧s∧t∧u∧v∧w∧x∧y∧z∧A∧B∧C∧D∧E∧F∧G∧H∧I∧J∧K∧L∧M∧N∧O∧R∧S∧T) : T := h.2.2.2.2.2.2.2.2.2.2.2.2.2.2.2.2.2.2.2.2.2.2.2.2.2.2.2.2.2.2.2.2.2.2.2.2.2.2.2.2.2.2
theorem p43_ (h : a∧b∧c∧d∧e∧f∧g∧i∧j∧k∧l∧m∧n∧o∧p∧q∧r∧s∧t∧u∧v∧w∧x∧y∧z∧A∧B∧C∧D∧E∧F∧G∧H∧I∧J∧K∧L∧M∧N∧O∧R∧S∧T∧U∧h1) : U := h.2.2.2.2.2.2.2.2.2.2.2.2.2.2.2.2.2.2.2.2.2.2.2.2.2.2.2.2.2.2.2.2.2.2.2.2.2.2.2.2.2.2.2.1
theorem q43_ (h : a∧b∧c∧d∧e∧f∧g∧i∧j∧k∧l∧m∧n∧o∧p∧q∧r∧s∧t∧u∧v∧w∧x∧y∧z∧A∧B∧C∧D∧E∧F∧G∧H∧I∧J∧K∧L∧M∧N∧O∧R∧S∧T∧U) : U := h.2.2.2.2.2.2.2.2.2.2.2.2.2.2.2.2.2.2.2.2.2.2.2.2.2.2.2.2.2.2.2.2.2.2.2.2.2.2.2.2.2.2.2
theorem p44_ (h : a∧b∧c∧d∧e∧f∧g∧i∧j∧k∧l∧m∧n∧o∧p∧q∧r∧s∧t∧u∧v∧w∧x∧y∧z∧A∧B∧C∧D∧E∧F∧G∧H∧I∧J∧K∧L∧M∧N∧O∧R∧S∧T∧U∧V∧h1) : V := h.2.2.2.2.2.2.2.2.2.2.2.2.2.2.2.2.2.2.2.2.2.2.2.2.2.2.2.2.2.2.2.2.2.2.2.2.2.2.2.2.2.2.2.2.1
theorem q44_ (h : a∧b∧c∧d∧e∧f∧g∧i∧j∧k∧l∧m∧n∧o∧p∧q∧r∧s∧t∧u∧v∧w∧x∧y∧z∧A∧B∧C∧D∧E∧F∧G∧H∧I∧J∧K∧L∧M∧N∧O∧R∧S∧T∧U∧V) : V := h.2.2.2.2.2.2.2.2.2.2.2.2.2.2.2.2.2.2.2.2.2.2.2.2.2.2.2.2.2.2.2.2.2.2.2.2.2.2.2.2.2.2.2.2
theorem p45_ (h : a∧b∧c∧d∧e∧f∧g∧i∧j∧k∧l∧m∧n∧o∧p∧q∧r∧s∧t∧u∧v∧w∧x∧y∧z∧A∧B∧C∧D∧E∧F∧G∧H∧I∧J∧K∧L∧M∧N∧O∧R∧S∧T∧U∧V∧W∧h1) : W := h.2.2.2.2.2.2.2.2.2.2.2.2.2.2.2.2.2.2.2.2.2.2.2.2.2.2.2.2.2.2.2.2.2.2.2.2.2.2.2.2.2.2.2.2.2.1
theorem q45_ (h : a∧b∧c∧d∧e∧f∧g∧i∧j∧k∧l∧m∧n∧o∧p∧q∧r∧s∧t∧u∧v∧w∧x∧y∧z∧A∧B∧C∧D∧E∧F∧G∧H∧I∧J∧K∧L∧M∧N∧O∧R∧S∧T∧U∧V∧W) : W := h.2.2.2.2.2.2.2.2.2.2.2.2.2.2.2.2.2.2.2.2.2.2.2.2.2.2.2.2.2.2.2.2.2.2.2.2.2.2.2.2.2.2.2.2.2
theorem p46_ (h : a∧b∧c∧d∧e∧f∧g∧i∧j∧k∧l∧m∧n∧o∧p∧q∧r∧s∧t∧u∧v∧w∧x∧y∧z∧A∧B∧C∧D∧E∧F∧G∧H∧I∧J∧K∧L∧M∧N∧O∧R∧S∧T∧U∧V∧W∧X∧h1) : X := h.2.2.2.2.2.2.2.2.2.2.2.2.2.2.2.2.2.2.2.2.2.2.2.2.2.2.2.2.2.2.2.2.2.2.2.2.2.2.2.2.2.2.2.2.2.2.1
theorem q46_ (h : a∧b∧c∧d∧e∧f∧g∧i∧j∧k∧l∧m∧n∧o∧p∧q∧r∧s∧t∧u∧v∧w∧x∧y∧z∧A∧B∧C∧D∧E∧F∧G∧H∧I∧J∧K∧L∧M∧N∧O∧R∧S∧T∧U∧V∧W∧X) : X := h.2.2.2.2.2.2.2.2.2.2.2.2.2.2.2.2.2.2.2.2.2.2.2.2.2.2.2.2.2.2.2.2.2.2.2.2.2.2.2.2.2.2.2.2.2.2
theorem p47_ (h : a∧b∧c∧d∧e∧f∧g∧i∧j∧k∧l∧m∧n∧o∧p∧q∧r∧s∧t∧u∧v∧w∧x∧y∧z∧A∧B∧C∧D∧E∧F∧G∧H∧I∧J∧K∧L∧M∧N∧O∧R∧S∧T∧U∧V∧W∧X∧Y∧h1) : Y := h.2.2.2.2.2.2.2.2.2.2.2.2.2.2.2.2.2.2.2.2.2.2.2.2.2.2.2.2.2.2.2.2.2.2.2.2.2.2.2.2.2.2.2.2.2.2.2.1
theorem q47_ (h : a∧b∧c∧d∧e∧f∧g∧i∧j∧k∧l∧m∧n∧o∧p∧q∧r∧s∧t∧u∧v∧w∧x∧y∧z∧A∧B∧C∧D∧E∧F∧G∧H∧I∧J∧K∧L∧M∧N∧O∧R∧S∧T∧U∧V∧W∧X∧Y) : Y := h.2.2.2.2.2.2.2.2.2.2.2.2.2.2.2.2.2.2.2.2.2.2.2.2.2.2.2.2.2.2.2.2.2.2.2.2.2.2.2.2.2.2.2.2.2.2.2
theorem p48_ (h : a∧b∧c∧d∧e∧f∧g∧i∧j∧k∧l∧m∧n∧o∧p∧q∧r∧s∧t∧u∧v∧w∧x∧y∧z∧A∧B∧C∧D∧E∧F∧G∧H∧I∧J∧K∧L∧M∧N∧O∧R∧S∧T∧U∧V∧W∧X∧Y∧Z∧h1) : Z := h.2.2.2.2.2.2.2.2.2.2.2.2.2.2.2.2.2.2.2.2.2.2.2.2.2.2.2.2.2.2.2.2.2.2.2.2.2.2.2.2.2.2.2.2.2.2.2.2.1
theorem q48_ (h : a∧b∧c∧d∧e∧f∧g∧i∧j∧k∧l∧m∧n∧o∧p∧q∧r∧s∧t∧u∧v∧w∧x∧y∧z∧A∧B∧C∧D∧E∧F∧G∧H∧I∧J∧K∧L∧M∧N∧O∧R∧S∧T∧U∧V∧W∧X∧Y∧Z) : Z := h.2.2.2.2.2.2.2.2.2.2.2.2.2.2.2.2.2.2.2.2.2.2.2.2.2.2.2.2.2.2.2.2.2.2.2.2.2.2.2.2.2.2.2.2.2.2.2.2
theorem p49_ (h : a∧b∧c∧d∧e∧f∧g∧i∧j∧k∧l∧m∧n∧o∧p∧q∧r∧s∧t∧u∧v∧w∧x∧y∧z∧A∧B∧C∧D∧E∧F∧G∧H∧I∧J∧K∧L∧M∧N∧O∧R∧S∧T∧U∧V∧W∧X∧Y∧Z∧a0∧h1) : a0 := h.2.2.2.2.2.2.2.2.2.2.2.2.2.2.2.2.2.2.2.2.2.2.2.2.2.2.2.2.2.2.2.2.2.2.2.2.2.2.2.2.2.2.2.2.2.2.2.2.2.1
theorem q49_ (h : a∧b∧c∧d∧e∧f∧g∧i∧j∧k∧l∧m∧n∧o∧p∧q∧r∧s∧t∧u∧v∧w∧x∧y∧z∧A∧B∧C∧D∧E∧F∧G∧H∧I∧J∧K∧L∧M∧N∧O∧R∧S∧T∧U∧V∧W∧X∧Y∧Z∧a0) : a0 := h.2.2.2.2.2.2.2.2.2.2.2.2.2.2.2.2.2.2.2.2.2.2.2.2.2.2.2.2.2.2.2.2.2.2.2.2.2.2.2.2.2.2.2.2.2.2.2.2.2
theorem p50_ (h : a∧b∧c∧d∧e∧f∧g∧i∧j∧k∧l∧m∧n∧o∧p∧q∧r∧s∧t∧u∧v∧w∧x∧y∧z∧A∧B∧C∧D∧E∧F∧G∧H∧I∧J∧K∧L∧M∧N∧O∧R∧S∧T∧U∧V∧W∧X∧Y∧Z∧a0∧a1∧h1) : a1 := h.2.2.2.2.2.2.2.2.2.2.2.2.2.2.2.2.2.2.2.2.2.2.2.2.2.2.2.2.2.2.2.2.2.2.2.2.2.2.2.2.2.2.2.2.2.2.2.2.2.2.1
theorem q50_ (h : a∧b∧c∧d∧e∧f∧g∧i∧j∧k∧l∧m∧n∧o∧p∧q∧r∧s∧t∧u∧v∧w∧x∧y∧z∧A∧B∧C∧D∧E∧F∧G∧H∧I∧J∧K∧L∧M∧N∧O∧R∧S∧T∧U∧V∧W∧X∧Y∧Z∧a0∧a1) : a1 := h.2.2.2.2.2.2.2.2.2.2.2.2.2.2.2.2.2.2.2.2.2.2.2.2.2.2.2.2.2.2.2.2.2.2.2.2.2.2.2.2.2.2.2.2.2.2.2.2.2.2
theorem p51_ (h : a∧b∧c∧d∧e∧f∧g∧i∧j∧k∧l∧m∧n∧o∧p∧q∧r∧s∧t∧u∧v∧w∧x∧y∧z∧A∧B∧C∧D∧E∧F∧G∧H∧I∧J∧K∧L∧M∧N∧O∧R∧S∧T∧U∧V∧W∧X∧Y∧Z∧a0∧a1∧a2∧h1) : a2 := h.2.2.2.2.2.2.2.2.2.2.2.2.2.2.2.2.2.2.2.2.2.2.2.2.2.2.2.2.2.2.2.2.2.2.2.2.2.2.2.2.2.2.2.2.2.2.2.2.2.2.2.1
theorem q51_ (h : a∧b∧c∧d∧e∧f∧g∧i∧j∧k∧l∧m∧n∧o∧p∧q∧r∧s∧t∧u∧v∧w∧x∧y∧z∧A∧B∧C∧D∧E∧F∧G∧H∧I∧J∧K∧L∧M∧N∧O∧R∧S∧T∧U∧V∧W∧X∧Y∧Z∧a0∧a1∧a2) : a2 := h.2.2.2.2.2.2.2.2.2.2.2.2.2.2.2.2.2.2.2.2.2.2.2.2.2.2.2.2.2.2.2.2.2.2.2.2.2.2.2.2.2.2.2.2.2.2.2.2.2.2.2
theorem p52_ (h : a∧b∧c∧d∧e∧f∧g∧i∧j∧k∧l∧m∧n∧o∧p∧q∧r∧s∧t∧u∧v∧w∧x∧y∧z∧A∧B∧C∧D∧E∧F∧G∧H∧I∧J∧K∧L∧M∧N∧O∧R∧S∧T∧U∧V∧W∧X∧Y∧Z∧a0∧a1∧a2∧a3∧h1) : a3 := h.2.2.2.2.2.2.2.2.2.2.2.2.2.2.2.2.2.2.2.2.2.2.2.2.2.2.2.2.2.2.2.2.2.2.2.2.2.2.2.2.2.2.2.2.2.2.2.2.2.2.2.2.1
theorem q52_ (h : a∧b∧c∧d∧e∧f∧g∧i∧j∧k∧l∧m∧n∧o∧p∧q∧r∧s∧t∧u∧v∧w∧x∧y∧z∧A∧B∧C∧D∧E∧F∧G∧H∧I∧J∧K∧L∧M∧N∧O∧R∧S∧T∧U∧V∧W∧X∧Y∧Z∧a0∧a1∧a2∧a3) : a3 := h.2.2.2.2.2.2.2.2.2.2.2.2.2.2.2.2.2.2.2.2.2.2.2.2.2.2.2.2.2.2.2.2.2.2.2.2.2.2.2.2.2.2.2.2.2.2.2.2.2.2.2.2
theorem p53_ (h : a∧b∧c∧d∧e∧f∧g∧i∧j∧k∧l∧m∧n∧o∧p∧q∧r∧s∧t∧u∧v∧w∧x∧y∧z∧A∧B∧C∧D∧E∧F∧G∧H∧I∧J∧K∧L∧M∧N∧O∧R∧S∧T∧U∧V∧W∧X∧Y∧Z∧a0∧a1∧a2∧a3∧a4∧h1) : a4 := h.2.2.2.2.2.2.2.2.2.2.2.2.2.2.2.2.2.2.2.2.2.2.2.2.2.2.2.2.2.2.2.2.2.2.2.2.2.2.2.2.2.2.2.2.2.2.2.2.2.2.2.2.2.1
theorem q53_ (h : a∧b∧c∧d∧e∧f∧g∧i∧j∧k∧l∧m∧n∧o∧p∧q∧r∧s∧t∧u∧v∧w∧x∧y∧z∧A∧B∧C∧D∧E∧F∧G∧H∧I∧J∧K∧L∧M∧N∧O∧R∧S∧T∧U∧V∧W∧X∧Y∧Z∧a0∧a1∧a2∧a3∧a4) : a4 := h.2.2.2.2.2.2.2.2.2.2.2.2.2.2.2.2.2.2.2.2.2.2.2.2.2.2.2.2.2.2.2.2.2.2.2.2.2.2.2.2.2.2.2.2.2.2.2.2.2.2.2.2.2
theorem p54_ (h : a∧b∧c∧d∧e∧f∧g∧i∧j∧k∧l∧m∧n∧o∧p∧q∧r∧s∧t∧u∧v∧w∧x∧y∧z∧A∧B∧C∧D∧E∧F∧G∧H∧I∧J∧K∧L∧M∧N∧O∧R∧S∧T∧U∧V∧W∧X∧Y∧Z∧a0∧a1∧a2∧a3∧a4∧a5∧h1) : a5 := h.2.2.2.2.2.2.2.2.2.2.2.2.2.2.2.2.2.2.2.2.2.2.2.2.2.2.2.2.2.2.2.2.2.2.2.2.2.2.2.2.2.2.2.2.2.2.2.2.2.2.2.2.2.2.1
theorem q54_ (h : a∧b∧c∧d∧e∧f∧g∧i∧j∧k∧l∧m∧n∧o∧p∧q∧r∧s∧t∧u∧v∧w∧x∧y∧z∧A∧B∧C∧D∧E∧F∧G∧H∧I∧J∧K∧L∧M∧N∧O∧R∧S∧T∧U∧V∧W∧X∧Y∧Z∧a0∧a1∧a2∧a3∧a4∧a5) : a5 := h.2.2.2.2.2.2.2.2.2.2.2.2.2.2.2.2.2.2.2.2.2.2.2.2.2.2.2.2.2.2.2.2.2.2.2.2.2.2.2.2.2.2.2.2.2.2.2.2.2.2.2.2.2.2
theorem p55_ (h : a∧b∧c∧d∧e∧f∧g∧i∧j∧k∧l∧m∧n∧o∧p∧q∧r∧s∧t∧u∧v∧w∧x∧y∧z∧A∧B∧C∧D∧E∧F∧G∧H∧I∧J∧K∧L∧M∧N∧O∧R∧S∧T∧U∧V∧W∧X∧Y∧Z∧a0∧a1∧a2∧a3∧a4∧a5∧a6∧h1) : a6 := h.2.2.2.2.2.2.2.2.2.2.2.2.2.2.2.2.2.2.2.2.2.2.2.2.2.2.2.2.2.2.2.2.2.2.2.2.2.2.2.2.2.2.2.2.2.2.2.2.2.2.2.2.2.2.2.1
theorem q55_ (h : a∧b∧c∧d∧e∧f∧g∧i∧j∧k∧l∧m∧n∧o∧p∧q∧r∧s∧t∧u∧v∧w∧x∧y∧z∧A∧B∧C∧D∧E∧F∧G∧H∧I∧J∧K∧L∧M∧N∧O∧R∧S∧T∧U∧V∧W∧X∧Y∧Z∧a0∧a1∧a2∧a3∧a4∧a5∧a6) : a6 := h.2.2.2.2.2.2.2.2.2.2.2.2.2.2.2.2.2.2.2.2.2.2.2.2.2.2.2.2.2.2.2.2.2.2.2.2.2.2.2.2.2.2.2.2.2.2.2.2.2.2.2.2.2.2.2
theorem p56_ (h : a∧b∧c∧d∧e∧f∧g∧i∧j∧k∧l∧m∧n∧o∧p∧q∧r∧s∧t∧u∧v∧w∧x∧y∧z∧A∧B∧C∧D∧E∧F∧G∧H∧I∧J∧K∧L∧M∧N∧O∧R∧S∧T∧U∧V∧W∧X∧Y∧Z∧a0∧a1∧a2∧a3∧a4∧a5∧a6∧a7∧h1) : a7 := h.2.2.2.2.2.2.2.2.2.2.2.2.2.2.2.2.2.2.2.2.2.2.2.2.2.2.2.2.2.2.2.2.2.2.2.2.2.2.2.2.2.2.2.2.2.2.2.2.2.2.2.2.2.2.2.2.1
theorem q56_ (h : a∧b∧c∧d∧e∧f∧g∧i∧j∧k∧l∧m∧n∧o∧p∧q∧r∧s∧t∧u∧v∧w∧x∧y∧z∧A∧B∧C∧D∧E∧F∧G∧H∧I∧J∧K∧L∧M∧N∧O∧R∧S∧T∧U∧V∧W∧X∧Y∧Z∧a0∧a1∧a2∧a3∧a4∧a5∧a6∧a7) : a7 := h.2.2.2.2.2.2.2.2.2.2.2.2.2.2.2.2.2.2.2.2.2.2.2.2.2.2.2.2.2.2.2.2.2.2.2.2.2.2.2.2.2.2.2.2.2.2.2.2.2.2.2.2.2.2.2.2
theorem p57_ (h : a∧b∧c∧d∧e∧f∧g∧i∧j∧k∧l∧m∧n∧o∧p∧q∧r∧s∧t∧u∧v∧w∧x∧y∧z∧A∧B∧C∧D∧E∧F∧G∧H∧I∧J∧K∧L∧M∧N∧O∧R∧S∧T∧U∧V∧W∧X∧Y∧Z∧a0∧a1∧a2∧a3∧a4∧a5∧a6∧a7∧a8∧h1) : a8 := h.2.2.2.2.2.2.2.2.2.2.2.2.2.2.2.2.2.2.2.2.2.2.2.2.2.2.2.2.2.2.2.2.2.2.2.2.2.2.2.2.2.2.2.2.2.2.2.2.2.2.2.2.2.2.2.2.2.1
theorem q57_ (h : a∧b∧c∧d∧e∧f∧g∧i∧j∧k∧l∧m∧n∧o∧p∧q∧r∧s∧t∧u∧v∧w∧x∧y∧z∧A∧B∧C∧D∧E∧F∧G∧H∧I∧J∧K∧L∧M∧N∧O∧R∧S∧T∧U∧V∧W∧X∧Y∧Z∧a0∧a1∧a2∧a3∧a4∧a5∧a6∧a7∧a8) : a8 := h.2.2.2.2.2.2.2.2.2.2.2.2.2.2.2.2.2.2.2.2.2.2.2.2.2.2.2.2.2.2.2.2.2.2.2.2.2.2.2.2.2.2.2.2.2.2.2.2.2.2.2.2.2.2.2.2.2
theorem p58_ (h : a∧b∧c∧d∧e∧f∧g∧i∧j∧k∧l∧m∧n∧o∧p∧q∧r∧s∧t∧u∧v∧w∧x∧y∧z∧A∧B∧C∧D∧E∧F∧G∧H∧I∧J∧K∧L∧M∧N∧O∧R∧S∧T∧U∧V∧W∧X∧Y∧Z∧a0∧a1∧a2∧a3∧a4∧a5∧a6∧a7∧a8∧a9∧h1) : a9 := h.2.2.2.2.2.2.2.2.2.2.2.2.2.2.2.2.2.2.2.2.2.2.2.2.2.2.2.2.2.2.2.2.2.2.2.2.2.2.2.2.2.2.2.2.2.2.2.2.2.2.2.2.2.2.2.2.2.2.1
theorem q58_ (h : a∧b∧c∧d∧e∧f∧g∧i∧j∧k∧l∧m∧n∧o∧p∧q∧r∧s∧t∧u∧v∧w∧x∧y∧z∧A∧B∧C∧D∧E∧F∧G∧H∧I∧J∧K∧L∧M∧N∧O∧R∧S∧T∧U∧V∧W∧X∧Y∧Z∧a0∧a1∧a2∧a3∧a4∧a5∧a6∧a7∧a8∧a9) : a9 := h.2.2.2.2.2.2.2.2.2.2.2.2.2.2.2.2.2.2.2.2.2.2.2.2.2.2.2.2.2.2.2.2.2.2.2.2.2.2.2.2.2.2.2.2.2.2.2.2.2.2.2.2.2.2.2.2.2.2
theorem p59_ (h : a∧b∧c∧d∧e∧f∧g∧i∧j∧k∧l∧m∧n∧o∧p∧q∧r∧s∧t∧u∧v∧w∧x∧y∧z∧A∧B∧C∧D∧E∧F∧G∧H∧I∧J∧K∧L∧M∧N∧O∧R∧S∧T∧U∧V∧W∧X∧Y∧Z∧a0∧a1∧a2∧a3∧a4∧a5∧a6∧a7∧a8∧a9∧b0∧h1) : b0 := h.2.2.2.2.2.2.2.2.2.2.2.2.2.2.2.2.2.2.2.2.2.2.2.2.2.2.2.2.2.2.2.2.2.2.2.2.2.2.2.2.2.2.2.2.2.2.2.2.2.2.2.2.2.2.2.2.2.2.2.1
theorem q59_ (h : a∧b∧c∧d∧e∧f∧g∧i∧j∧k∧l∧m∧n∧o∧p∧q∧r∧s∧t∧u∧v∧w∧x∧y∧z∧A∧B∧C∧D∧E∧F∧G∧H∧I∧J∧K∧L∧M∧N∧O∧R∧S∧T∧U∧V∧W∧X∧Y∧Z∧a0∧a1∧a2∧a3∧a4∧a5∧a6∧a7∧a8∧a9∧b0) : b0 := h.2.2.2.2.2.2.2.2.2.2.2.2.2.2.2.2.2.2.2.2.2.2.2.2.2.2.2.2.2.2.2.2.2.2.2.2.2.2.2.2.2.2.2.2.2.2.2.2.2.2.2.2.2.2.2.2.2.2.2
theorem k2_ (h : a∧b∧h1) (hf : h1 → h2) : a∧b∧h2 := ⟨h.1, h.2.1, hf h.2.2⟩
theorem k3_ (h : a∧b∧c∧h1) (hf : h1 → h2) : a∧b∧c∧h2 := ⟨h.1, h.2.1, h.2.2.1, hf h.2.2.2⟩
theorem k4_ (h : a∧b∧c∧d∧h1) (hf : h1 → h2) : a∧b∧c∧d∧h2 := k2_ h (k2_ · hf)
theorem k5_ (h : a∧b∧c∧d∧e∧h1) (hf : h1 → h2) : a∧b∧c∧d∧e∧h2 := k2_ h (k3_ · hf)
theorem k6_ (h : a∧b∧c∧d∧e∧f∧h1) (hf : h1 → h2) : a∧b∧c∧d∧e∧f∧h2 := k3_ h (k3_ · hf)
theorem k7_ (h : a∧b∧c∧d∧e∧f∧g∧h1) (hf : h1 → h2) : a∧b∧c∧d∧e∧f∧g∧h2 := k3_ h (k4_ · hf)
theorem k8_ (h : a∧b∧c∧d∧e∧f∧g∧i∧h1) (hf : h1 → h2) : a∧b∧c∧d∧e∧f∧g∧i∧h2 := k4_ h (k4_ · hf)
theorem k9_ (h : a∧b∧c∧d∧e∧f∧g∧i∧j∧h1) (hf : h1 → h2) : a∧b∧c∧d∧e∧f∧g∧i∧j∧h2 := k4_ h (k5_ · hf)
theorem k10_ (h : a∧b∧c∧d∧e∧f∧g∧i∧j∧k∧h1) (hf : h1 → h2) : a∧b∧c∧d∧e∧f∧g∧i∧j∧k∧h2 := k5_ h (k5_ · hf)
theorem k11_ (h : a∧b∧c∧d∧e∧f∧g∧i∧j∧k∧l∧h1) (hf : h1 → h2) : a∧b∧c∧d∧e∧f∧g∧i∧j∧k∧l∧h2 := k5_ h (k6_ · hf)
theorem k12_ (h : a∧b∧c∧d∧e∧f∧g∧i∧j∧k∧l∧m∧h1) (hf : h1 → h2) : a∧b∧c∧d∧e∧f∧g∧i∧j∧k∧l∧m∧h2 := k6_ h (k6_ · hf)
theorem k13_ (h : a∧b∧c∧d∧e∧f∧g∧i∧j∧k∧l∧m∧n∧h1) (hf : h1 → h2) : a∧b∧c∧d∧e∧f∧g∧i∧j∧k∧l∧m∧n∧h2 := k6_ h (k7_ · hf)
theorem k14_ (h : a∧b∧c∧d∧e∧f∧g∧i∧j∧k∧l∧m∧n∧o∧h1) (hf : h1 → h2) : a∧b∧c∧d∧e∧f∧g∧i∧j∧k∧l∧m∧n∧o∧h2 := k7_ h (k7_ · hf)
theorem k15_ (h : a∧b∧c∧d∧e∧f∧g∧i∧j∧k∧l∧m∧n∧o∧p∧h1) (hf : h1 → h2) : a∧b∧c∧d∧e∧f∧g∧i∧j∧k∧l∧m∧n∧o∧p∧h2 := k7_ h (k8_ · hf)
theorem k16_ (h : a∧b∧c∧d∧e∧f∧g∧i∧j∧k∧l∧m∧n∧o∧p∧q∧h1) (hf : h1 → h2) : a∧b∧c∧d∧e∧f∧g∧i∧j∧k∧l∧m∧n∧o∧p∧q∧h2 := k8_ h (k8_ · hf)
theorem k17_ (h : a∧b∧c∧d∧e∧f∧g∧i∧j∧k∧l∧m∧n∧o∧p∧q∧r∧h1) (hf : h1 → h2) : a∧b∧c∧d∧e∧f∧g∧i∧j∧k∧l∧m∧n∧o∧p∧q∧r∧h2 := k8_ h (k9_ · hf)
theorem k18_ (h : a∧b∧c∧d∧e∧f∧g∧i∧j∧k∧l∧m∧n∧o∧p∧q∧r∧s∧h1) (hf : h1 → h2) : a∧b∧c∧d∧e∧f∧g∧i∧j∧k∧l∧m∧n∧o∧p∧q∧r∧s∧h2 := k9_ h (k9_ · hf)
theorem k19_ (h : a∧b∧c∧d∧e∧f∧g∧i∧j∧k∧l∧m∧n∧o∧p∧q∧r∧s∧t∧h1) (hf : h1 → h2) : a∧b∧c∧d∧e∧f∧g∧i∧j∧k∧l∧m∧n∧o∧p∧q∧r∧s∧t∧h2 := k9_ h (k10_ · hf)
theorem k20_ (h : a∧b∧c∧d∧e∧f∧g∧i∧j∧k∧l∧m∧n∧o∧p∧q∧r∧s∧t∧u∧h1) (hf : h1 → h2) : a∧b∧c∧d∧e∧f∧g∧i∧j∧k∧l∧m∧n∧o∧p∧q∧r∧s∧t∧u∧h2 := k10_ h (k10_ · hf)
theorem k21_ (h : a∧b∧c∧d∧e∧f∧g∧i∧j∧k∧l∧m∧n∧o∧p∧q∧r∧s∧t∧u∧v∧h1) (hf : h1 → h2) : a∧b∧c∧d∧e∧f∧g∧i∧j∧k∧l∧m∧n∧o∧p∧q∧r∧s∧t∧u∧v∧h2 := k10_ h (k11_ · hf)
theorem k22_ (h : a∧b∧c∧d∧e∧f∧g∧i∧j∧k∧l∧m∧n∧o∧p∧q∧r∧s∧t∧u∧v∧w∧h1) (hf : h1 → h2) : a∧b∧c∧d∧e∧f∧g∧i∧j∧k∧l∧m∧n∧o∧p∧q∧r∧s∧t∧u∧v∧w∧h2 := k11_ h (k11_ · hf)
theorem k23_ (h : a∧b∧c∧d∧e∧f∧g∧i∧j∧k∧l∧m∧n∧o∧p∧q∧r∧s∧t∧u∧v∧w∧x∧h1) (hf : h1 → h2) : a∧b∧c∧d∧e∧f∧g∧i∧j∧k∧l∧m∧n∧o∧p∧q∧r∧s∧t∧u∧v∧w∧x∧h2 := k11_ h (k12_ · hf)
theorem k24_ (h : a∧b∧c∧d∧e∧f∧g∧i∧j∧k∧l∧m∧n∧o∧p∧q∧r∧s∧t∧u∧v∧w∧x∧y∧h1) (hf : h1 → h2) : a∧b∧c∧d∧e∧f∧g∧i∧j∧k∧l∧m∧n∧o∧p∧q∧r∧s∧t∧u∧v∧w∧x∧y∧h2 := k12_ h (k12_ · hf)
theorem k25_ (h : a∧b∧c∧d∧e∧f∧g∧i∧j∧k∧l∧m∧n∧o∧p∧q∧r∧s∧t∧u∧v∧w∧x∧y∧z∧h1) (hf : h1 → h2) : a∧b∧c∧d∧e∧f∧g∧i∧j∧k∧l∧m∧n∧o∧p∧q∧r∧s∧t∧u∧v∧w∧x∧y∧z∧h2 := k12_ h (k13_ · hf)
theorem k26_ (h : a∧b∧c∧d∧e∧f∧g∧i∧j∧k∧l∧m∧n∧o∧p∧q∧r∧s∧t∧u∧v∧w∧x∧y∧z∧A∧h1) (hf : h1 → h2) : a∧b∧c∧d∧e∧f∧g∧i∧j∧k∧l∧m∧n∧o∧p∧q∧r∧s∧t∧u∧v∧w∧x∧y∧z∧A∧h2 := k13_ h (k13_ · hf)
theorem k27_ (h : a∧b∧c∧d∧e∧f∧g∧i∧j∧k∧l∧m∧n∧o∧p∧q∧r∧s∧t∧u∧v∧w∧x∧y∧z∧A∧B∧h1) (hf : h1 → h2) : a∧b∧c∧d∧e∧f∧g∧i∧j∧k∧l∧m∧n∧o∧p∧q∧r∧s∧t∧u∧v∧w∧x∧y∧z∧A∧B∧h2 := k13_ h (k14_ · hf)
theorem k28_ (h : a∧b∧c∧d∧e∧f∧g∧i∧j∧k∧l∧m∧n∧o∧p∧q∧r∧s∧t∧u∧v∧w∧x∧y∧z∧A∧B∧C∧h1) (hf : h1 → h2) : a∧b∧c∧d∧e∧f∧g∧i∧j∧k∧l∧m∧n∧o∧p∧q∧r∧s∧t∧u∧v∧w∧x∧y∧z∧A∧B∧C∧h2 := k14_ h (k14_ · hf)
theorem k29_ (h : a∧b∧c∧d∧e∧f∧g∧i∧j∧k∧l∧m∧n∧o∧p∧q∧r∧s∧t∧u∧v∧w∧x∧y∧z∧A∧B∧C∧D∧h1) (hf : h1 → h2) : a∧b∧c∧d∧e∧f∧g∧i∧j∧k∧l∧m∧n∧o∧p∧q∧r∧s∧t∧u∧v∧w∧x∧y∧z∧A∧B∧C∧D∧h2 := k14_ h (k15_ · hf)
theorem k30_ (h : a∧b∧c∧d∧e∧f∧g∧i∧j∧k∧l∧m∧n∧o∧p∧q∧r∧s∧t∧u∧v∧w∧x∧y∧z∧A∧B∧C∧D∧E∧h1) (hf : h1 → h2) : a∧b∧c∧d∧e∧f∧g∧i∧j∧k∧l∧m∧n∧o∧p∧q∧r∧s∧t∧u∧v∧w∧x∧y∧z∧A∧B∧C∧D∧E∧h2 := k15_ h (k15_ · hf)
theorem k31_ (h : a∧b∧c∧d∧e∧f∧g∧i∧j∧k∧l∧m∧n∧o∧p∧q∧r∧s∧t∧u∧v∧w∧x∧y∧z∧A∧B∧C∧D∧E∧F∧h1) (hf : h1 → h2) : a∧b∧c∧d∧e∧f∧g∧i∧j∧k∧l∧m∧n∧o∧p∧q∧r∧s∧t∧u∧v∧w∧x∧y∧z∧A∧B∧C∧D∧E∧F∧h2 := k15_ h (k16_ · hf)
theorem k32_ (h : a∧b∧c∧d∧e∧f∧g∧i∧j∧k∧l∧m∧n∧o∧p∧q∧r∧s∧t∧u∧v∧w∧x∧y∧z∧A∧B∧C∧D∧E∧F∧G∧h1) (hf : h1 → h2) : a∧b∧c∧d∧e∧f∧g∧i∧j∧k∧l∧m∧n∧o∧p∧q∧r∧s∧t∧u∧v∧w∧x∧y∧z∧A∧B∧C∧D∧E∧F∧G∧h2 := k16_ h (k16_ · hf)
theorem k33_ (h : a∧b∧c∧d∧e∧f∧g∧i∧j∧k∧l∧m∧n∧o∧p∧q∧r∧s∧t∧u∧v∧w∧x∧y∧z∧A∧B∧C∧D∧E∧F∧G∧H∧h1) (hf : h1 → h2) : a∧b∧c∧d∧e∧f∧g∧i∧j∧k∧l∧m∧n∧o∧p∧q∧r∧s∧t∧u∧v∧w∧x∧y∧z∧A∧B∧C∧D∧E∧F∧G∧H∧h2 := k16_ h (k17_ · hf)
theorem k34_ (h : a∧b∧c∧d∧e∧f∧g∧i∧j∧k∧l∧m∧n∧o∧p∧q∧r∧s∧t∧u∧v∧w∧x∧y∧z∧A∧B∧C∧D∧E∧F∧G∧H∧I∧h1) (hf : h1 → h2) : a∧b∧c∧d∧e∧f∧g∧i∧j∧k∧l∧m∧n∧o∧p∧q∧r∧s∧t∧u∧v∧w∧x∧y∧z∧A∧B∧C∧D∧E∧F∧G∧H∧I∧h2 := k17_ h (k17_ · hf)
theorem k35_ (h : a∧b∧c∧d∧e∧f∧g∧i∧j∧k∧l∧m∧n∧o∧p∧q∧r∧s∧t∧u∧v∧w∧x∧y∧z∧A∧B∧C∧D∧E∧F∧G∧H∧I∧J∧h1) (hf : h1 → h2) : a∧b∧c∧d∧e∧f∧g∧i∧j∧k∧l∧m∧n∧o∧p∧q∧r∧s∧t∧u∧v∧w∧x∧y∧z∧A∧B∧C∧D∧E∧F∧G∧H∧I∧J∧h2 := k17_ h (k18_ · hf)
theorem k36_ (h : a∧b∧c∧d∧e∧f∧g∧i∧j∧k∧l∧m∧n∧o∧p∧q∧r∧s∧t∧u∧v∧w∧x∧y∧z∧A∧B∧C∧D∧E∧F∧G∧H∧I∧J∧K∧h1) (hf : h1 → h2) : a∧b∧c∧d∧e∧f∧g∧i∧j∧k∧l∧m∧n∧o∧p∧q∧r∧s∧t∧u∧v∧w∧x∧y∧z∧A∧B∧C∧D∧E∧F∧G∧H∧I∧J∧K∧h2 := k18_ h (k18_ · hf)
theorem k37_ (h : a∧b∧c∧d∧e∧f∧g∧i∧j∧k∧l∧m∧n∧o∧p∧q∧r∧s∧t∧u∧v∧w∧x∧y∧z∧A∧B∧C∧D∧E∧F∧G∧H∧I∧J∧K∧L∧h1) (hf : h1 → h2) : a∧b∧c∧d∧e∧f∧g∧i∧j∧k∧l∧m∧n∧o∧p∧q∧r∧s∧t∧u∧v∧w∧x∧y∧z∧A∧B∧C∧D∧E∧F∧G∧H∧I∧J∧K∧L∧h2 := k18_ h (k19_ · hf)
theorem k38_ (h : a∧b∧c∧d∧e∧f∧g∧i∧j∧k∧l∧m∧n∧o∧p∧q∧r∧s∧t∧u∧v∧w∧x∧y∧z∧A∧B∧C∧D∧E∧F∧G∧H∧I∧J∧K∧L∧M∧h1) (hf : h1 → h2) : a∧b∧c∧d∧e∧f∧g∧i∧j∧k∧l∧m∧n∧o∧p∧q∧r∧s∧t∧u∧v∧w∧x∧y∧z∧A∧B∧C∧D∧E∧F∧G∧H∧I∧J∧K∧L∧M∧h2 := k19_ h (k19_ · hf)
theorem k39_ (h : a∧b∧c∧d∧e∧f∧g∧i∧j∧k∧l∧m∧n∧o∧p∧q∧r∧s∧t∧u∧v∧w∧x∧y∧z∧A∧B∧C∧D∧E∧F∧G∧H∧I∧J∧K∧L∧M∧N∧h1) (hf : h1 → h2) : a∧b∧c∧d∧e∧f∧g∧i∧j∧k∧l∧m∧n∧o∧p∧q∧r∧s∧t∧u∧v∧w∧x∧y∧z∧A∧B∧C∧D∧E∧F∧G∧H∧I∧J∧K∧L∧M∧N∧h2 := k19_ h (k20_ · hf)
end
theorem nf_ {Q : Prop} (h : false = true) : Q := by cases h
theorem nd_ {d : Nat → Bool} {a b c : Nat} (h : d a = true → ∀ j, j < b → d j = true) (hd : d c = false) (hc : c < b := by decide) : d a = false := by cases e : d a with | false => rfl | true => exact absurd (h e c hc) (by simp [hd])
theorem ab_ {Q : Prop} {d : Nat → Bool} {b c : Nat} (h : ∀ j, j < b → d j = true) (hd : d c = false) (hc : c < b := by decide) : Q := absurd (h c hc) (by simp [hd])

/-! ### A region that draws its order, by an invariant -/
section
variable {P : Program} {ops : Array Oper} {Q : Exit → Act → World → Prop} {md : Region.Mode} {S : World → Prop}

/-- i is done, too -/
def upd (d : Nat → Bool) (i : Nat) : Nat → Bool := fun j => if j = i then true else d j
/-- what operation i waits for -/
def waits (md : Region.Mode) (ops : Array Oper) (i : Nat) : List Nat := ((ops[i]?).map fun o => (o.after.toList.filter fun e => Region.binds md e).map (·.on)).getD []
/-- nobody waits for what comes behind him -/
def lowly (md : Region.Mode) (ops : Array Oper) : Bool := (List.range ops.size).all fun i => (waits md ops i).all fun j => decide (j < i)
def left (l : Array Bool) : List Nat := (List.range l.size).filter fun i => !l.getD i true

theorem waits_mem {i : Nat} {o : Oper} (ho : ops[i]? = some o) {e : Edge} (he : e ∈ o.after) (hb : Region.binds md e = true) : e.on ∈ waits md ops i := by
  simp only [waits, ho, Option.map_some, Option.getD_some]
  exact List.mem_map.2 ⟨e, List.mem_filter.2 ⟨by simpa using he, hb⟩, rfl⟩

theorem countP_listed (l : List Bool) (i : Nat) (h : l[i]? = some false) : ((l.set i true).countP fun b => !b) + 1 = l.countP fun b => !b := by
  induction l generalizing i with
  | nil => simp at h
  | cons x r ih =>
    cases i with
    | zero => simp at h; subst h; simp
    | succ i => simp at h; have := ih i h; simp only [List.set_cons_succ, List.countP_cons]; omega

theorem wpAnyH_inv (R : List Nat) (hlow : lowly md ops = true) (Inv : (Nat → Bool) → Act → World → Prop) (l0 : Array Bool)
    (hR : ∀ i, i < ops.size → l0.getD i true = false → i ∈ R) (hR' : ∀ i, i ∈ R → i < ops.size ∧ l0.getD i true = false) (hS : ∀ d a w, Inv d a w → S w)
    (step : ∀ i, i ∈ R → ∀ d a w, Inv d a w → d i = false → (∀ j, j ∈ R → (waits md ops i).contains j = true → d j = true) → wpOp P ops Q i (fun a' w' => Inv (upd d i) a' w') a w)
    (done : ∀ d a w, Inv d a w → (∀ i, i ∈ R → d i = true) → Q .normal a w) :
    ∀ (fuel : Nat) (listed : Array Bool) (d : Nat → Bool) (a : Act) (w : World), listed.size = ops.size → (∀ i, i < ops.size → listed.getD i true = (l0.getD i true || d i)) → (listed.toList.countP fun b => !b) ≤ fuel → Inv d a w →
      wpAnyH P md ops Q S fuel listed a w := by
  -- where nothing may come up all is done
  have all : ∀ (listed : Array Bool), listed.size = ops.size → Region.ready md ops listed = [] → ∀ i, i < ops.size → listed.getD i true = true := by
    intro listed hs hr i
    induction i using Nat.strongRecOn with
    | _ i ih =>
      intro hi
      cases h : listed.getD i true with
      | true => rfl
      | false =>
        exfalso
        have : i ∈ Region.ready md ops listed := by
          refine mem_ready.2 ⟨h, ops[i], Array.getElem?_eq_getElem hi, fun e he hb => ?_⟩
          have hw := waits_mem (md := md) (ops := ops) (Array.getElem?_eq_getElem hi) he hb
          have hlt : e.on < i := by
            have := List.all_eq_true.1 (List.all_eq_true.1 hlow i (List.mem_range.2 hi)) e.on hw
            simpa using this
          have := ih e.on hlt (by omega)
          rw [Array.getD_eq_getD_getElem?] at this ⊢
          rw [Array.getElem?_eq_getElem (by omega)] at this ⊢
          exact this
        rw [hr] at this
        cases this
  have fin : ∀ (listed : Array Bool) (d : Nat → Bool) (a : Act) (w : World), (∀ i, i < ops.size → listed.getD i true = (l0.getD i true || d i)) → (∀ i, i < ops.size → listed.getD i true = true) → Inv d a w → Q .normal a w := by
    intro listed d a w hl ha hI
    refine done d a w hI fun i hi => ?_
    obtain ⟨h1, h2⟩ := hR' i hi
    have := hl i h1
    rw [ha i h1, h2] at this
    simpa using this.symm
  intro fuel
  induction fuel with
  | zero =>
    intro listed d a w hs hl hc hI
    have hall : ∀ i, i < ops.size → listed.getD i true = true := by
      intro i hi
      cases h : listed.getD i true with
      | true => rfl
      | false =>
        exfalso
        rw [Array.getD_eq_getD_getElem?, Array.getElem?_eq_getElem (by omega)] at h
        have hm : listed[i]'(by omega) ∈ listed.toList := by simp
        have : 0 < listed.toList.countP fun b => !b := List.countP_pos_iff.2 ⟨_, hm, by simp at h; simp [h]⟩
        omega
    refine ⟨?_, fin listed d a w hl hall hI⟩
    cases h : Region.ready md ops listed with
    | nil => rfl
    | cons x r =>
      exfalso
      have hx : x ∈ Region.ready md ops listed := by rw [h]; simp
      obtain ⟨h0, o, ho, _⟩ := mem_ready.1 hx
      have := hall x (Array.getElem?_eq_some_iff.1 ho).1
      rw [h0] at this; cases this
  | succ fuel ih =>
    intro listed d a w hs hl hc hI
    refine ⟨fun hr => fin listed d a w hl (all listed hs hr) hI, fun i hi => ?_⟩
    obtain ⟨h0, o, ho, hall⟩ := mem_ready.1 hi
    have hio : i < ops.size := (Array.getElem?_eq_some_iff.1 ho).1
    have hli := hl i hio
    rw [h0] at hli
    have hl0 : l0.getD i true = false := by
      cases h : l0.getD i true with
      | false => rfl
      | true => rw [h] at hli; simp at hli
    have hdi : d i = false := by rw [hl0] at hli; simpa using hli.symm
    have hiR := hR i hio hl0
    refine wpOp_mono (fun a' w' h' => ⟨hS _ _ _ h', ih (listed.setIfInBounds i true) (upd d i) a' w' (by simpa using hs) (fun j hj => ?_) ?_ h'⟩) (step i hiR d a w hI hdi fun j hj hwj => ?_)
    · by_cases hji : j = i
      · subst hji
        simp [upd, Array.getD_eq_getD_getElem?, Array.getElem?_setIfInBounds, hs, hj]
      · rw [getD_set_ne true (Ne.symm hji), hl j hj]
        simp [upd, hji]
    · have h1 : listed.toList[i]? = some false := by
        rw [Array.getD_eq_getD_getElem?, Array.getElem?_eq_getElem (by omega)] at h0
        simp at h0
        simp [hs, hio, h0]
      have := countP_listed listed.toList i h1
      rw [Array.toList_setIfInBounds]
      omega
    · have hm : j ∈ waits md ops i := by simpa using hwj
      simp only [waits, ho, Option.map_some, Option.getD_some] at hm
      obtain ⟨e, he, rfl⟩ := List.mem_map.1 hm
      obtain ⟨he1, he2⟩ := List.mem_filter.1 he
      have h3 := hall e (by simpa using he1) he2
      obtain ⟨h1, h2⟩ := hR' e.on hj
      have h4 := hl e.on h1
      rw [h2, Array.getD_eq_getD_getElem?, Array.getElem?_eq_getElem (by omega)] at h4
      rw [Array.getD_eq_getD_getElem?, Array.getElem?_eq_getElem (by omega)] at h3
      simp at h3 h4
      rw [h3] at h4
      exact h4.symm

/-- A WHOLE REGION: R: all its operations' numbers. -/
theorem wp_region_inv {id : Nat} {a : Act} {w : World} (n : Nat) (hm : P.follows .mixedOrders = true) (hlow : lowly .any ops = true) (hn : ops.size = n) (Inv : (Nat → Bool) → Act → World → Prop)
    (h0 : Inv (fun _ => false) a w.drew)
    (step : ∀ i, i ∈ List.range n → ∀ d a w, Inv d a w → d i = false → (∀ j, j ∈ List.range n → (waits .any ops i).contains j = true → d j = true) → wpOp P ops Q i (fun a' w' => Inv (upd d i) a' w') a w)
    (done : ∀ d a w, Inv d a w → (∀ i, i ∈ List.range n → d i = true) → Q .normal a w) : (Code.region id ops true).wp P Q a w := by
  refine wp_region_held_drew (S := fun _ => True) hm trivial fun _ => ?_
  refine wpAnyH_inv (List.range n) hlow Inv (Array.replicate ops.size false) (fun i hi _ => List.mem_range.2 (hn ▸ hi)) (fun i hi => ?_) (fun _ _ _ _ => trivial) step done ops.size _ (fun _ => false) a w.drew (by simp) (fun i hi => by simp) ?_ h0
  · have : i < ops.size := by rw [hn]; exact List.mem_range.1 hi
    exact ⟨this, by simp [Array.getD_eq_getD_getElem?, this]⟩
  · refine Nat.le_trans List.countP_le_length (by simp)

/-- the steps, one by one -/
def StepsOf (P : Program) (ops : Array Oper) (Q : Exit → Act → World → Prop) (md : Region.Mode) (n : Nat) (Inv : (Nat → Bool) → Act → World → Prop) (l : List Nat) : Prop :=
  ∀ i, i ∈ l → ∀ d a w, Inv d a w → d i = false → (∀ j, j ∈ List.range n → (waits md ops i).contains j = true → d j = true) → wpOp P ops Q i (fun a' w' => Inv (upd d i) a' w') a w
theorem StepsOf.nil {n : Nat} {Inv : (Nat → Bool) → Act → World → Prop} : StepsOf P ops Q md n Inv [] := fun _ h => by cases h
/-- One operation: the world and the frame at hand, what is done; what it waits for is done (ws: a list that the kernel compares); behind it the invariant, handed over behind 'K'. -/
theorem StepsOf.cons {n i : Nat} {Inv : (Nat → Bool) → Act → World → Prop} {l ws : List Nat} {o : Oper} (ho : ops[i]? = some o) (hw : waits md ops i = ws) (hn : (ws.all fun j => decide (j < n)) = true)
    (h : ∀ d a w, Inv d a w → d i = false → (∀ j, j ∈ ws → d j = true) → ∀ K : Act → World → Prop, (∀ a' w', Inv (upd d i) a' w' → K a' w') → if Region.wanted o (yielded ops a.tmps) = true then Oper.wp P o a w K Q else K (a.put o.dst undef) w)
    (hs : StepsOf P ops Q md n Inv l) : StepsOf P ops Q md n Inv (i :: l) := fun j hj => by
  rcases List.mem_cons.1 hj with rfl | hj
  · intro d a w hI hd hws
    refine wpOp_step ho fun K hK => h d a w hI hd (fun k hk => hws k (List.mem_range.2 ?_) ?_) K hK
    · simpa using List.all_eq_true.1 hn k hk
    · rw [hw]; simpa using hk
  · exact hs j hj

/-! the same, the frame a function of the slots that the region writes (s) and of the blocks that it makes (b) -/
/-- one value more -/
def ups {α : Type} (s : Nat → α) (i : Nat) (v : α) : Nat → α := fun j => if j = i then v else s j
def StepsF (P : Program) (ops : Array Oper) (Q : Exit → Act → World → Prop) (md : Region.Mode) (n : Nat) (act : (Nat → Value) → (Nat → Nat) → Act) (F : (Nat → Bool) → (Nat → Value) → (Nat → Nat) → World → Prop) (l : List Nat) : Prop :=
  ∀ i, i ∈ l → ∀ d s b w, F d s b w → d i = false → (∀ j, j ∈ List.range n → (waits md ops i).contains j = true → d j = true) → wpOp P ops Q i (fun a' w' => ∃ s' b', a' = act s' b' ∧ F (upd d i) s' b' w') (act s b) w
theorem StepsF.nil {n : Nat} {act : (Nat → Value) → (Nat → Nat) → Act} {F : (Nat → Bool) → (Nat → Value) → (Nat → Nat) → World → Prop} : StepsF P ops Q md n act F [] := fun _ h => by cases h
theorem StepsF.cons {n i : Nat} {act : (Nat → Value) → (Nat → Nat) → Act} {F : (Nat → Bool) → (Nat → Value) → (Nat → Nat) → World → Prop} {l ws : List Nat} {o : Oper} (ho : ops[i]? = some o) (hw : waits md ops i = ws) (hn : (ws.all fun j => decide (j < n)) = true)
    (h : ∀ d s b w, Hid (F d s b w) → d i = false → (∀ j, j ∈ ws → d j = true) → ∀ K : Act → World → Prop, Hid (∀ s' b' w', F (upd d i) s' b' w' → K (act s' b') w') → if Region.wanted o (yielded ops (act s b).tmps) = true then Oper.wp P o (act s b) w K Q else K ((act s b).put o.dst undef) w)
    (hs : StepsF P ops Q md n act F l) : StepsF P ops Q md n act F (i :: l) := fun j hj => by
  rcases List.mem_cons.1 hj with rfl | hj
  · intro d s b w hI hd hws
    refine wpOp_step ho fun K hK => h d s b w hI hd (fun k hk => hws k (List.mem_range.2 ?_) ?_) K fun s' b' w' hF => hK _ _ ⟨s', b', rfl, hF⟩
    · simpa using List.all_eq_true.1 hn k hk
    · rw [hw]; simpa using hk
  · exact hs j hj
theorem sc_ {n i : Nat} {act : (Nat → Value) → (Nat → Nat) → Act} {F : (Nat → Bool) → (Nat → Value) → (Nat → Nat) → World → Prop} {l : List Nat} {o : Oper} (ho : ops[i]? = some o) (ws : List Nat)
    (h : ∀ d s b w, Hid (F d s b w) → d i = false → (∀ j, j ∈ ws → d j = true) → ∀ K : Act → World → Prop, Hid (∀ s' b' w', F (upd d i) s' b' w' → K (act s' b') w') → if Region.wanted o (yielded ops (act s b).tmps) = true then Oper.wp P o (act s b) w K Q else K ((act s b).put o.dst undef) w)
    (hs : StepsF P ops Q md n act F l) (hw : waits md ops i = ws := by kernel_rfl) (hn : (ws.all fun j => decide (j < n)) = true := by decide) : StepsF P ops Q md n act F (i :: l) := StepsF.cons ho hw hn h hs
theorem wp_region_fun {id : Nat} {a : Act} {w : World} (n : Nat) (hm : P.follows .mixedOrders = true) (hlow : lowly .any ops = true) (hn : ops.size = n)
    (act : (Nat → Value) → (Nat → Nat) → Act) (F : (Nat → Bool) → (Nat → Value) → (Nat → Nat) → World → Prop) (ha : a = act (fun j => a.eval (.tmp j)) (fun _ => 0))
    (h0 : F (fun _ => false) (fun j => a.eval (.tmp j)) (fun _ => 0) w.drew)
    (step : StepsF P ops Q .any n act F (List.range n))
    (done : ∀ d s b w', F d s b w' → (∀ i, i ∈ List.range n → d i = true) → Q .normal (act s b) w') : (Code.region id ops true).wp P Q a w :=
  wp_region_inv n hm hlow hn (fun d a w => ∃ s b, a = act s b ∧ F d s b w) ⟨_, _, ha, h0⟩
    (fun i hi d a w hI hd hw => by obtain ⟨s, b, rfl, hF⟩ := hI; exact step i hi d s b w hF hd hw)
    (fun d a w hI hall => by obtain ⟨s, b, rfl, hF⟩ := hI; exact done d s b w hF hall)
end
end Go.Proofs.Ytmbnmbjlggbfkaa
