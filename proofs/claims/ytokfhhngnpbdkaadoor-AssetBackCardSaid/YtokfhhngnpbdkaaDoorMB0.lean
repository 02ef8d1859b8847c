/- KA CA CB CC CD CE CF CG CH CI CJ CK CL CO CP CQ CR CS CT CU CV PC PE PS PF CW HU PJ, in one text. -/
import Derived.WalkKit
import Derived.Below
import Derived.Deep.RegionHeld3
import Derived.Deep.MidRow
import Derived.WalkLawsBesides
import Derived.Laws.AppendOwn
import Derived.Laws.IdiomCopy
import Derived.Lib.Hide
import Derived.Laws.BitsAllLaws
import Derived.Test.YtokfhhngnpbdkaaDoorProg
import Derived.Deep.DeepCutAuto
import Derived.Deep.QuietTactic
import Derived.LoopN
import Derived.LoopTactic
import Derived.Deep.WholeRow
import Derived.Deep.Onto
import Derived.Laws.OwnMore
import Derived.Laws.BytesString
import Derived.Shelf.Bytes.SlSmallAll
import Derived.ChangeSlices
import Derived.Lib.SmallJoins
import Derived.OpenShut
import Derived.ProofKit
import Derived.Deep.Strs
import Derived.Deep.Fields
import Derived.ChangeSame
import Derived.Great.BuildSlice
import Derived.Lib.SlBytesConst
import Derived.ArgAppend
import Derived.Deep.Upon
/- KA -/
namespace Go.Proofs.YtokfhhngnpbdkaaDoor
set_option linter.unusedVariables false
set_option maxRecDepth 2000
set_option linter.unusedSimpArgs false
open Go.RowKit

/-- block b holds these values from offset o on -/
structure Has (b o : Nat) (cs : List Value) (W : World) : Prop where
  lt : b < W.heap.size
  cell : W.rangeAt b o cs
/-- block b holds these values from its head on, and may be written -/
structure Own (b : Nat) (cs : List Value) (W : World) : Prop where
  lt : b < W.heap.size
  cell : W.rangeAt b 0 cs
  free : W.there b 0 cs.length

theorem Has.at {b o : Nat} {cs : List Value} {W : World} (h : Has b o cs W) (i : Nat) (v : Value) (hv : cs[i]? = some v) : W.cell? ⟨b, o + i, none⟩ = some v := h.cell i v hv
theorem Own.at {b : Nat} {cs : List Value} {W : World} (h : Own b cs W) (i : Nat) (v : Value) (hv : cs[i]? = some v) : W.cell? ⟨b, i, none⟩ = some v := by
  have := h.cell i v hv
  rwa [Nat.zero_add] at this
theorem Own.ok {b : Nat} {cs : List Value} {W : World} (h : Own b cs W) (i : Nat) (hi : i < cs.length) : W.frozen? ⟨b, i, none⟩ = false := by
  have := (h.free i hi).2
  rwa [Nat.zero_add] at this
theorem Own.has {b : Nat} {cs : List Value} {W : World} (h : Own b cs W) : Has b 0 cs W := ⟨h.lt, h.cell⟩
theorem Has.later {b o : Nat} {cs : List Value} {W W' : World} (h : Has b o cs W) (hb : Below W.heap.size W W') : Has b o cs W' where
  lt := Nat.lt_of_lt_of_le h.lt hb.size
  cell := fun j v hv => by rw [hb.cell (p := ⟨b, o + j, none⟩) h.lt]; exact h.cell j v hv
theorem Has.below {B b o : Nat} {cs : List Value} {W W' : World} (h : Has b o cs W) (hb : Below B W W') (hB : b < B) : Has b o cs W' where
  lt := Nat.lt_of_lt_of_le h.lt hb.size
  cell := fun j v hv => by rw [hb.cell (p := ⟨b, o + j, none⟩) hB]; exact h.cell j v hv
theorem Own.later {b : Nat} {cs : List Value} {W W' : World} (h : Own b cs W) (hb : Below W.heap.size W W') : Own b cs W' where
  lt := Nat.lt_of_lt_of_le h.lt hb.size
  cell := fun j v hv => by rw [hb.cell (p := ⟨b, 0 + j, none⟩) h.lt]; exact h.cell j v hv
  free := fun j hj => by rw [hb.cell (p := ⟨b, 0 + j, none⟩) h.lt, hb.frozen (p := ⟨b, 0 + j, none⟩) h.lt]; exact h.free j hj
theorem Own.alloc {b : Nat} {cs : List Value} {W : World} {o : Obj} (h : Own b cs W) : Own b cs (W.alloc o) := h.later ((Below.refl _ _).alloc (Nat.le_refl _) _)
theorem Own.drew {b : Nat} {cs : List Value} {W : World} (h : Own b cs W) : Own b cs W.drew := h.later (Below.refl _ _).drew
theorem Has.alloc {b i : Nat} {cs : List Value} {W : World} {o : Obj} (h : Has b i cs W) : Has b i cs (W.alloc o) := h.later ((Below.refl _ _).alloc (Nat.le_refl _) _)
theorem Has.drew {b o : Nat} {cs : List Value} {W : World} (h : Has b o cs W) : Has b o cs W.drew := h.later (Below.refl _ _).drew
theorem Own.new (W : World) (cs : List Value) (T : TypeId) : Own W.heap.size cs (W.alloc (.cells cs.toArray T)) where
  lt := by simp
  cell := fun j v hv => by
    rw [Nat.zero_add, World.cell?_alloc_new]
    simpa using hv
  free := fun j hj => by
    constructor
    · rw [Nat.zero_add, World.cell?_alloc_new]
      simp [hj]
    · rw [Nat.zero_add, World.frozen?_alloc_new]
theorem Own.newAt {b : Nat} {W : World} {cs : Array Value} {T : TypeId} (h : b = W.heap.size) : Own b cs.toList (W.alloc (.cells cs T)) := by
  subst h
  have := Own.new W cs.toList T
  simpa using this
theorem Own.store {b : Nat} {cs vs : List Value} {W : World} (h : Own b cs W) (hl : vs.length = cs.length) : Own b vs (W.setCells b 0 vs) where
  lt := by
    have : (W.setCells b 0 vs).heap.size = W.heap.size := by
      have k : ∀ (l : List Value) (o : Nat) (w : World), (w.setCells b o l).heap.size = w.heap.size := by
        intro l
        induction l with
        | nil => intro o w; rfl
        | cons v r ih => intro o w; rw [World.setCells, ih]; simp [World.setCell]
      exact k vs 0 W
    rw [this]; exact h.lt
  cell := World.rangeAt_setCells_same _ _ _ _ (by rw [hl]; exact h.free)
  free := World.there_setCells (by rw [hl]; exact h.free) _ _ _
theorem size_setCells (b : Nat) : ∀ (l : List Value) (o : Nat) (w : World), (w.setCells b o l).heap.size = w.heap.size
  | [], _, _ => rfl
  | v :: r, o, w => by rw [World.setCells, size_setCells b r]; simp [World.setCell]
theorem Own.far {b c o : Nat} {cs vs : List Value} {W : World} (h : Own b cs W) (hn : b ≠ c) : Own b cs (W.setCells c o vs) where
  lt := by rw [size_setCells]; exact h.lt
  cell := World.rangeAt_setCells_apart h.cell _ _ _ (.inl hn)
  free := World.there_setCells h.free _ _ _
theorem Has.far {b c i o : Nat} {cs vs : List Value} {W : World} (h : Has b i cs W) (hn : b ≠ c) : Has b i cs (W.setCells c o vs) where
  lt := by rw [size_setCells]; exact h.lt
  cell := World.rangeAt_setCells_apart h.cell _ _ _ (.inl hn)
/-- values written over a list from o on -/
def over (cs : List Value) (o : Nat) (vs : List Value) : List Value := cs.take o ++ vs ++ cs.drop (o + vs.length)
theorem over_length (cs : List Value) (o : Nat) (vs : List Value) (h : o + vs.length ≤ cs.length) : (over cs o vs).length = cs.length := by
  simp [over]; omega
theorem Own.part {b o : Nat} {cs vs : List Value} {W : World} (h : Own b cs W) (hl : o + vs.length ≤ cs.length) : Own b (over cs o vs) (W.setCells b o vs) where
  lt := by rw [size_setCells]; exact h.lt
  cell := fun j v hv => by
    have tv : W.there b o vs.length := fun i hi => by
      have := h.free (o + i) (by omega)
      rwa [Nat.zero_add] at this
    by_cases h1 : j < o
    · rw [World.cell?_setCells_out b vs o W ⟨b, 0 + j, none⟩ (fun _ _ => .inl (by show 0 + j < o; omega))]
      refine h.cell j v ?_
      rw [← hv]
      simp only [over, List.append_assoc]
      rw [List.getElem?_append_left (by simp; omega), List.getElem?_take_of_lt h1]
    · by_cases h2 : j < o + vs.length
      · have := World.rangeAt_setCells_same W b o vs tv (j - o) v (by
          rw [← hv]
          simp only [over, List.append_assoc]
          rw [List.getElem?_append_right (by simp; omega), List.length_take, Nat.min_eq_left (by omega), List.getElem?_append_left (by omega)])
        rwa [show o + (j - o) = 0 + j by omega] at this
      · rw [World.cell?_setCells_out b vs o W ⟨b, 0 + j, none⟩ (fun _ _ => .inr (by show o + vs.length ≤ 0 + j; omega))]
        refine h.cell j v ?_
        rw [← hv]
        simp only [over]
        rw [List.getElem?_append_right (by simp; omega), List.getElem?_drop]
        congr 1
        simp
        omega
  free := by rw [over_length cs o vs hl]; exact World.there_setCells h.free _ _ _
theorem Below.setCells {B : Nat} {a w : World} (h : Below B a w) {b : Nat} (hp : B ≤ b) : ∀ (vs : List Value) (o : Nat), Below B a (w.setCells b o vs) := fun vs => by
  induction vs generalizing w with
  | nil => intro o; exact h
  | cons v r ih => intro o; rw [World.setCells]; exact ih (h.setCell (p := ⟨b, o, none⟩) hp v) _
theorem Below.al {a w : World} {o : Obj} (h : Below a.heap.size a w) : Below a.heap.size a (w.alloc o) := h.alloc h.size o
/-- a step behind steps -/
theorem Below.next {B : Nat} {a w w' : World} (h : Below B a w) (k : Below w.heap.size w w') (hB : B ≤ w.heap.size) : Below B a w' := h.trans (k.mono hB)
theorem Below.go {a w w' : World} (h : Below a.heap.size a w) (k : Below w.heap.size w w') : Below a.heap.size a w' := h.trans (k.mono h.size)

/-! ### append to a row of the call's own -/
theorem Own.grown {b : Nat} {cs : List Value} {W W' : World} {row : Option Nat} (h : Own b cs W) (hg : W.grownBy W' row) (hr : row ≠ some b) : Own b cs W' where
  lt := Nat.lt_of_lt_of_le h.lt hg.size
  cell := fun j v hv => by rw [World.cell?_of_block (w := W) (a := ⟨b, 0 + j, none⟩) (hg.block b h.lt hr.symm)]; exact h.cell j v hv
  free := fun j hj => by
    rw [World.cell?_of_block (w := W) (a := ⟨b, 0 + j, none⟩) (hg.block b h.lt hr.symm), World.frozen?_of_block (w := W) (a := ⟨b, 0 + j, none⟩) (hg.block b h.lt hr.symm)]
    exact h.free j hj
theorem Has.grown {b o : Nat} {cs : List Value} {W W' : World} {row : Option Nat} (h : Has b o cs W) (hg : W.grownBy W' row) (hr : row ≠ some b) : Has b o cs W' where
  lt := Nat.lt_of_lt_of_le h.lt hg.size
  cell := fun j v hv => by rw [World.cell?_of_block (w := W) (a := ⟨b, o + j, none⟩) (hg.block b h.lt hr.symm)]; exact h.cell j v hv
theorem row_ne {w : World} {base size n b : Nat} {e : TypeId} {v : Value} {xs : List Value} (h : w.ownsRow base e size v n xs) (hb : b < base) : v.ownBlock ≠ some b := by
  rcases h.2 with ⟨rfl, _⟩ | ⟨g, cap, cur, rfl, hg, _⟩
  · simp [Value.ownBlock]
  · simp [Value.ownBlock]; omega
theorem row_ge {w : World} {base size n : Nat} {e : TypeId} {v : Value} {xs : List Value} (h : w.ownsRow base e size v n xs) : ∀ k, v.ownBlock = some k → base ≤ k := by
  intro k hk
  rcases h.2 with ⟨rfl, _⟩ | ⟨g, cap, cur, rfl, hg, _⟩
  · simp [Value.ownBlock] at hk
  · simp [Value.ownBlock] at hk; omega
theorem row_later {w w' : World} {base size n : Nat} {e : TypeId} {v : Value} {xs : List Value} (h : w.ownsRow base e size v n xs) (hb : Below w.heap.size w w') : w'.ownsRow base e size v n xs := by
  refine ⟨h.1, ?_⟩
  rcases h.2 with h0 | ⟨g, cap, cur, hv, hg, hh, r⟩
  · exact .inl h0
  · refine .inr ⟨g, cap, cur, hv, hg, ?_, r⟩
    rw [hb.block g (Array.getElem?_eq_some_iff.1 hh).1]; exact hh
theorem row_has {w : World} {base size n g cap : Nat} {e : TypeId} {xs : List Value} (h : w.ownsRow base e size (.slice (some ⟨g, 0, none⟩) n cap) n xs) : Has g 0 xs w ∧ base ≤ g ∧ n ≤ cap ∧ cap ≤ maxLen := by
  rcases h.2 with ⟨h0, _⟩ | ⟨g', cap', cur, hv, hg, hh, h1, h2, h3, h4⟩
  · cases h0
  · cases hv
    refine ⟨⟨(Array.getElem?_eq_some_iff.1 hh).1, fun j v hj => ?_⟩, hg, h1, h2⟩
    rw [cell_of_row w g (0 + j) cur e (0, 0) hh, Nat.zero_add]
    rw [← h4] at hj
    rw [List.getElem?_take] at hj
    split at hj
    · simpa using hj
    · cases hj
/-- AS ONE STEP OF A REGION THAT DRAWS ITS ORDER: what is laid goes behind the call's own row. -/
theorem step_append_to {P : Program} {ops : Array Oper} {o : Oper} {a : Act} {w : World} {K : Act → World → Prop} {Q : Exit → Act → World → Prop} {E : Prop}
    (hg : o.guard = none) (s x : Operand) (t : TypeId) (hop : o.op = Op.call { callee := Callee.builtin Builtin.append, args := #[s, x], argTypes := #[t, t] })
    (e : TypeId) (i : TypeInfo) (z : Value) (size bytes : Nat) (h1 : P.underlying t = some (.slice e)) (h2 : P.info? e = some i) (h3 : i.zero = some z) (h4 : i.size = size) (h5 : i.bytes = bytes) (h6 : z.cells.size = size) (h7 : 0 < size)
    (base : Nat) (v : Value) (n : Nat) (xs : List Value) (hs : a.eval s = v) (hown : w.ownsRow base e size v n xs)
    (ad : Addr) (m c : Nat) (news : List Value) (hx : a.eval x = .slice (some ad) m c) (hn : news.length = m * size) (hc : ∀ j u, news[j]? = some u → w.cell? (ad.add j) = some u) (h1c : ∀ u ∈ news, u.oneCell' = true)
    (b1 : n + m ≤ maxLen) (b2 : (n + m) * bytes ≤ 140737488355328) (hb : base ≤ w.heap.size)
    (hK : ∀ v' w', w'.ownsRow base e size v' (n + m) (xs ++ news) → w.grownBy w' v.ownBlock → K (a.put o.dst v') w') :
    if Region.wanted o (yielded ops a.tmps) = true then Oper.wp P o a w K Q else E := by
  have hw : Region.wanted o (yielded ops a.tmps) = true := by simp [Region.wanted, hg]
  rw [if_pos hw]
  obtain ⟨v', w', hrun, r1, r2, _⟩ := run_append_own (P := P) w base t o.type e i z size bytes h1 h2 h3 h4 h5 h6 h7 v n xs hown ad m c news hn hc h1c b1 b2 hb
  unfold Oper.wp
  simp [execOp, hop, resolve, invoke, builtin, hs, hx, hrun, Result.andThen]
  exact hK v' w' r1 r2
/-- the cells of a block that is known whole, as an append asks them -/
theorem Own.news {b : Nat} {cs : List Value} {W : World} (h : Own b cs W) : ∀ j u, cs[j]? = some u → W.cell? ((⟨b, 0, none⟩ : Addr).add j) = some u := fun j u hj => by
  rw [Addr.add_mid, Nat.zero_add]; exact h.at j u hj
/-- the call's own rows lie behind what was there -/
theorem Below.gro {a w w' : World} {base n size : Nat} {e : TypeId} {v : Value} {xs : List Value} (h : Below a.heap.size a w) (hg : w.grownBy w' v.ownBlock) (ho : w.ownsRow base e size v n xs) (hb : a.heap.size ≤ base) : Below a.heap.size a w' :=
  h.grown hg h.size fun k hk => Nat.le_trans hb (row_ge ho k hk)

/-! ### copy, whatever the elements' size -/
/-! ### min and max of three, behind a name: the walk does not part at them -/
def mn3 (x y z : Int) : Int := if z < (if y < x then y else x) then z else (if y < x then y else x)
def mx3 (x y z : Int) : Int := if (if x < y then y else x) < z then z else (if x < y then y else x)
theorem mn3_lt (x y z c : Int) : mn3 x y z < c ↔ x < c ∨ y < c ∨ z < c := by unfold mn3; split <;> split <;> omega
theorem mx3_gt (x y z c : Int) : c < mx3 x y z ↔ c < x ∨ c < y ∨ c < z := by unfold mx3; split <;> split <;> omega
theorem run_mn3 {P : Program} {w : World} (ts : Array TypeId) (t : TypeId) (k k' k'' : IntKind) (x y z : Int) : (Builtin.min_ ts t #[.int k x, .int k' y, .int k'' z]).run P w = .ok (.int k (mn3 x y z)) w := by
  rw [run_min_int3]; rfl
theorem run_mx3 {P : Program} {w : World} (ts : Array TypeId) (t : TypeId) (k k' k'' : IntKind) (x y z : Int) : (Builtin.max_ ts t #[.int k x, .int k' y, .int k'' z]).run P w = .ok (.int k (mx3 x y z)) w := by
  rw [run_max_int3]; rfl

/-! ### the limbs of a long 'and' -/
theorem p0_ {a0 r : Prop} (h : a0 ∧ r) : a0 := h.1
theorem p1_ {a0 a1 r : Prop} (h : a0 ∧ a1 ∧ r) : a1 := h.2.1
theorem p2_ {a0 a1 a2 r : Prop} (h : a0 ∧ a1 ∧ a2 ∧ r) : a2 := h.2.2.1
theorem p3_ {a0 a1 a2 a3 r : Prop} (h : a0 ∧ a1 ∧ a2 ∧ a3 ∧ r) : a3 := h.2.2.2.1
theorem p4_ {a0 a1 a2 a3 a4 r : Prop} (h : a0 ∧ a1 ∧ a2 ∧ a3 ∧ a4 ∧ r) : a4 := h.2.2.2.2.1
theorem p5_ {a0 a1 a2 a3 a4 a5 r : Prop} (h : a0 ∧ a1 ∧ a2 ∧ a3 ∧ a4 ∧ a5 ∧ r) : a5 := h.2.2.2.2.2.1
theorem p6_ {a0 a1 a2 a3 a4 a5 a6 r : Prop} (h : a0 ∧ a1 ∧ a2 ∧ a3 ∧ a4 ∧ a5 ∧ a6 ∧ r) : a6 := h.2.2.2.2.2.2.1
theorem p7_ {a0 a1 a2 a3 a4 a5 a6 a7 r : Prop} (h : a0 ∧ a1 ∧ a2 ∧ a3 ∧ a4 ∧ a5 ∧ a6 ∧ a7 ∧ r) : a7 := h.2.2.2.2.2.2.2.1
theorem p8_ {a0 a1 a2 a3 a4 a5 a6 a7 a8 r : Prop} (h : a0 ∧ a1 ∧ a2 ∧ a3 ∧ a4 ∧ a5 ∧ a6 ∧ a7 ∧ a8 ∧ r) : a8 := h.2.2.2.2.2.2.2.2.1
theorem p9_ {a0 a1 a2 a3 a4 a5 a6 a7 a8 a9 r : Prop} (h : a0 ∧ a1 ∧ a2 ∧ a3 ∧ a4 ∧ a5 ∧ a6 ∧ a7 ∧ a8 ∧ a9 ∧ r) : a9 := h.2.2.2.2.2.2.2.2.2.1
theorem p10_ {a0 a1 a2 a3 a4 a5 a6 a7 a8 a9 a10 r : Prop} (h : a0 ∧ a1 ∧ a2 ∧ a3 ∧ a4 ∧ a5 ∧ a6 ∧ a7 ∧ a8 ∧ a9 ∧ a10 ∧ r) : a10 := h.2.2.2.2.2.2.2.2.2.2.1
theorem q10_ {a0 a1 a2 a3 a4 a5 a6 a7 a8 a9 a10 : Prop} (h : a0 ∧ a1 ∧ a2 ∧ a3 ∧ a4 ∧ a5 ∧ a6 ∧ a7 ∧ a8 ∧ a9 ∧ a10) : a10 := h.2.2.2.2.2.2.2.2.2.2
theorem p11_ {a0 a1 a2 a3 a4 a5 a6 a7 a8 a9 a10 a11 r : Prop} (h : a0 ∧ a1 ∧ a2 ∧ a3 ∧ a4 ∧ a5 ∧ a6 ∧ a7 ∧ a8 ∧ a9 ∧ a10 ∧ a11 ∧ r) : a11 := h.2.2.2.2.2.2.2.2.2.2.2.1
theorem p12_ {a0 a1 a2 a3 a4 a5 a6 a7 a8 a9 a10 a11 a12 r : Prop} (h : a0 ∧ a1 ∧ a2 ∧ a3 ∧ a4 ∧ a5 ∧ a6 ∧ a7 ∧ a8 ∧ a9 ∧ a10 ∧ a11 ∧ a12 ∧ r) : a12 := h.2.2.2.2.2.2.2.2.2.2.2.2.1
theorem p13_ {a0 a1 a2 a3 a4 a5 a6 a7 a8 a9 a10 a11 a12 a13 r : Prop} (h : a0 ∧ a1 ∧ a2 ∧ a3 ∧ a4 ∧ a5 ∧ a6 ∧ a7 ∧ a8 ∧ a9 ∧ a10 ∧ a11 ∧ a12 ∧ a13 ∧ r) : a13 := h.2.2.2.2.2.2.2.2.2.2.2.2.2.1
theorem q14_ {a0 a1 a2 a3 a4 a5 a6 a7 a8 a9 a10 a11 a12 a13 a14 : Prop} (h : a0 ∧ a1 ∧ a2 ∧ a3 ∧ a4 ∧ a5 ∧ a6 ∧ a7 ∧ a8 ∧ a9 ∧ a10 ∧ a11 ∧ a12 ∧ a13 ∧ a14) : a14 := h.2.2.2.2.2.2.2.2.2.2.2.2.2.2
/-! ### A region that draws its order, by an invariant -/
section
variable {P : Program} {ops : Array Oper} {Q : Exit → Act → World → Prop} {md : Region.Mode} {S : World → Prop}

/-- i is done, too -/
def upd (d : Nat → Bool) (i : Nat) : Nat → Bool := fun j => if j = i then true else d j
/-- what operation i waits for -/
def waits (md : Region.Mode) (ops : Array Oper) (i : Nat) : List Nat := ((ops[i]?).map fun o => (o.after.toList.filter fun e => Region.binds md e).map (·.on)).getD []
/-- nobody waits for what comes behind him -/
def lowly (md : Region.Mode) (ops : Array Oper) : Bool := (List.range ops.size).all fun i => (waits md ops i).all fun j => decide (j < i)
def left (l : Array Bool) : List Nat := (List.range l.size).filter fun i => !l.getD i true

theorem waits_mem {i : Nat} {o : Oper} (ho : ops[i]? = some o) {e : Edge} (he : e ∈ o.after) (hb : Region.binds md e = true) : e.on ∈ waits md ops i := by
  simp only [waits, ho, Option.map_some, Option.getD_some]
  exact List.mem_map.2 ⟨e, List.mem_filter.2 ⟨by simpa using he, hb⟩, rfl⟩

theorem countP_listed (l : List Bool) (i : Nat) (h : l[i]? = some false) : ((l.set i true).countP fun b => !b) + 1 = l.countP fun b => !b := by
  induction l generalizing i with
  | nil => simp at h
  | cons x r ih =>
    cases i with
    | zero => simp at h; subst h; simp
    | succ i => simp at h; have := ih i h; simp only [List.set_cons_succ, List.countP_cons]; omega

theorem wpAnyH_inv (R : List Nat) (hlow : lowly md ops = true) (Inv : (Nat → Bool) → Act → World → Prop) (l0 : Array Bool)
    (hR : ∀ i, i < ops.size → l0.getD i true = false → i ∈ R) (hR' : ∀ i, i ∈ R → i < ops.size ∧ l0.getD i true = false) (hS : ∀ d a w, Inv d a w → S w)
    (step : ∀ i, i ∈ R → ∀ d a w, Inv d a w → d i = false → (∀ j, j ∈ R → (waits md ops i).contains j = true → d j = true) → wpOp P ops Q i (fun a' w' => Inv (upd d i) a' w') a w)
    (done : ∀ d a w, Inv d a w → (∀ i, i ∈ R → d i = true) → Q .normal a w) :
    ∀ (fuel : Nat) (listed : Array Bool) (d : Nat → Bool) (a : Act) (w : World), listed.size = ops.size → (∀ i, i < ops.size → listed.getD i true = (l0.getD i true || d i)) → (listed.toList.countP fun b => !b) ≤ fuel → Inv d a w →
      wpAnyH P md ops Q S fuel listed a w := by
  -- where nothing may come up all is done
  have all : ∀ (listed : Array Bool), listed.size = ops.size → Region.ready md ops listed = [] → ∀ i, i < ops.size → listed.getD i true = true := by
    intro listed hs hr i
    induction i using Nat.strongRecOn with
    | _ i ih =>
      intro hi
      cases h : listed.getD i true with
      | true => rfl
      | false =>
        exfalso
        have : i ∈ Region.ready md ops listed := by
          refine mem_ready.2 ⟨h, ops[i], Array.getElem?_eq_getElem hi, fun e he hb => ?_⟩
          have hw := waits_mem (md := md) (ops := ops) (Array.getElem?_eq_getElem hi) he hb
          have hlt : e.on < i := by
            have := List.all_eq_true.1 (List.all_eq_true.1 hlow i (List.mem_range.2 hi)) e.on hw
            simpa using this
          have := ih e.on hlt (by omega)
          rw [Array.getD_eq_getD_getElem?] at this ⊢
          rw [Array.getElem?_eq_getElem (by omega)] at this ⊢
          exact this
        rw [hr] at this
        cases this
  have fin : ∀ (listed : Array Bool) (d : Nat → Bool) (a : Act) (w : World), (∀ i, i < ops.size → listed.getD i true = (l0.getD i true || d i)) → (∀ i, i < ops.size → listed.getD i true = true) → Inv d a w → Q .normal a w := by
    intro listed d a w hl ha hI
    refine done d a w hI fun i hi => ?_
    obtain ⟨h1, h2⟩ := hR' i hi
    have := hl i h1
    rw [ha i h1, h2] at this
    simpa using this.symm
  intro fuel
  induction fuel with
  | zero =>
    intro listed d a w hs hl hc hI
    have hall : ∀ i, i < ops.size → listed.getD i true = true := by
      intro i hi
      cases h : listed.getD i true with
      | true => rfl
      | false =>
        exfalso
        rw [Array.getD_eq_getD_getElem?, Array.getElem?_eq_getElem (by omega)] at h
        have hm : listed[i]'(by omega) ∈ listed.toList := by simp
        have : 0 < listed.toList.countP fun b => !b := List.countP_pos_iff.2 ⟨_, hm, by simp at h; simp [h]⟩
        omega
    refine ⟨?_, fin listed d a w hl hall hI⟩
    cases h : Region.ready md ops listed with
    | nil => rfl
    | cons x r =>
      exfalso
      have hx : x ∈ Region.ready md ops listed := by rw [h]; simp
      obtain ⟨h0, o, ho, _⟩ := mem_ready.1 hx
      have := hall x (Array.getElem?_eq_some_iff.1 ho).1
      rw [h0] at this; cases this
  | succ fuel ih =>
    intro listed d a w hs hl hc hI
    refine ⟨fun hr => fin listed d a w hl (all listed hs hr) hI, fun i hi => ?_⟩
    obtain ⟨h0, o, ho, hall⟩ := mem_ready.1 hi
    have hio : i < ops.size := (Array.getElem?_eq_some_iff.1 ho).1
    have hli := hl i hio
    rw [h0] at hli
    have hl0 : l0.getD i true = false := by
      cases h : l0.getD i true with
      | false => rfl
      | true => rw [h] at hli; simp at hli
    have hdi : d i = false := by rw [hl0] at hli; simpa using hli.symm
    have hiR := hR i hio hl0
    refine wpOp_mono (fun a' w' h' => ⟨hS _ _ _ h', ih (listed.setIfInBounds i true) (upd d i) a' w' (by simpa using hs) (fun j hj => ?_) ?_ h'⟩) (step i hiR d a w hI hdi fun j hj hwj => ?_)
    · by_cases hji : j = i
      · subst hji
        simp [upd, Array.getD_eq_getD_getElem?, Array.getElem?_setIfInBounds, hs, hj]
      · rw [getD_set_ne true (Ne.symm hji), hl j hj]
        simp [upd, hji]
    · have h1 : listed.toList[i]? = some false := by
        rw [Array.getD_eq_getD_getElem?, Array.getElem?_eq_getElem (by omega)] at h0
        simp at h0
        simp [hs, hio, h0]
      have := countP_listed listed.toList i h1
      rw [Array.toList_setIfInBounds]
      omega
    · have hm : j ∈ waits md ops i := by simpa using hwj
      simp only [waits, ho, Option.map_some, Option.getD_some] at hm
      obtain ⟨e, he, rfl⟩ := List.mem_map.1 hm
      obtain ⟨he1, he2⟩ := List.mem_filter.1 he
      have h3 := hall e (by simpa using he1) he2
      obtain ⟨h1, h2⟩ := hR' e.on hj
      have h4 := hl e.on h1
      rw [h2, Array.getD_eq_getD_getElem?, Array.getElem?_eq_getElem (by omega)] at h4
      rw [Array.getD_eq_getD_getElem?, Array.getElem?_eq_getElem (by omega)] at h3
      simp at h3 h4
      rw [h3] at h4
      exact h4.symm

/-- A WHOLE REGION: R: all its operations' numbers. -/
theorem wp_region_inv {id : Nat} {a : Act} {w : World} (n : Nat) (hm : P.follows .mixedOrders = true) (hlow : lowly .any ops = true) (hn : ops.size = n) (Inv : (Nat → Bool) → Act → World → Prop)
    (h0 : Inv (fun _ => false) a w.drew)
    (step : ∀ i, i ∈ List.range n → ∀ d a w, Inv d a w → d i = false → (∀ j, j ∈ List.range n → (waits .any ops i).contains j = true → d j = true) → wpOp P ops Q i (fun a' w' => Inv (upd d i) a' w') a w)
    (done : ∀ d a w, Inv d a w → (∀ i, i ∈ List.range n → d i = true) → Q .normal a w) : (Code.region id ops true).wp P Q a w := by
  refine wp_region_held_drew (S := fun _ => True) hm trivial fun _ => ?_
  refine wpAnyH_inv (List.range n) hlow Inv (Array.replicate ops.size false) (fun i hi _ => List.mem_range.2 (hn ▸ hi)) (fun i hi => ?_) (fun _ _ _ _ => trivial) step done ops.size _ (fun _ => false) a w.drew (by simp) (fun i hi => by simp) ?_ h0
  · have : i < ops.size := by rw [hn]; exact List.mem_range.1 hi
    exact ⟨this, by simp [Array.getD_eq_getD_getElem?, this]⟩
  · refine Nat.le_trans List.countP_le_length (by simp)

/-- the steps, one by one -/
def StepsOf (P : Program) (ops : Array Oper) (Q : Exit → Act → World → Prop) (md : Region.Mode) (n : Nat) (Inv : (Nat → Bool) → Act → World → Prop) (l : List Nat) : Prop :=
  ∀ i, i ∈ l → ∀ d a w, Inv d a w → d i = false → (∀ j, j ∈ List.range n → (waits md ops i).contains j = true → d j = true) → wpOp P ops Q i (fun a' w' => Inv (upd d i) a' w') a w
theorem StepsOf.nil {n : Nat} {Inv : (Nat → Bool) → Act → World → Prop} : StepsOf P ops Q md n Inv [] := fun _ h => by cases h
/-- One operation: the world and the frame at hand, what is done; what it waits for is done (ws: a list that the kernel compares); behind it the invariant, handed over behind 'K'. -/
theorem StepsOf.cons {n i : Nat} {Inv : (Nat → Bool) → Act → World → Prop} {l ws : List Nat} {o : Oper} (ho : ops[i]? = some o) (hw : waits md ops i = ws) (hn : (ws.all fun j => decide (j < n)) = true)
    (h : ∀ d a w, Inv d a w → d i = false → (∀ j, j ∈ ws → d j = true) → ∀ K : Act → World → Prop, (∀ a' w', Inv (upd d i) a' w' → K a' w') → if Region.wanted o (yielded ops a.tmps) = true then Oper.wp P o a w K Q else K (a.put o.dst undef) w)
    (hs : StepsOf P ops Q md n Inv l) : StepsOf P ops Q md n Inv (i :: l) := fun j hj => by
  rcases List.mem_cons.1 hj with rfl | hj
  · intro d a w hI hd hws
    refine wpOp_step ho fun K hK => h d a w hI hd (fun k hk => hws k (List.mem_range.2 ?_) ?_) K hK
    · simpa using List.all_eq_true.1 hn k hk
    · rw [hw]; simpa using hk
  · exact hs j hj

/-! the same, the frame a function of the slots that the region writes (s) and of the blocks that it makes (b) -/
/-- one value more -/
def ups {α : Type} (s : Nat → α) (i : Nat) (v : α) : Nat → α := fun j => if j = i then v else s j
def StepsF (P : Program) (ops : Array Oper) (Q : Exit → Act → World → Prop) (md : Region.Mode) (n : Nat) (act : (Nat → Value) → (Nat → Nat) → Act) (F : (Nat → Bool) → (Nat → Value) → (Nat → Nat) → World → Prop) (l : List Nat) : Prop :=
  ∀ i, i ∈ l → ∀ d s b w, F d s b w → d i = false → (∀ j, j ∈ List.range n → (waits md ops i).contains j = true → d j = true) → wpOp P ops Q i (fun a' w' => ∃ s' b', a' = act s' b' ∧ F (upd d i) s' b' w') (act s b) w
theorem StepsF.nil {n : Nat} {act : (Nat → Value) → (Nat → Nat) → Act} {F : (Nat → Bool) → (Nat → Value) → (Nat → Nat) → World → Prop} : StepsF P ops Q md n act F [] := fun _ h => by cases h
theorem StepsF.cons {n i : Nat} {act : (Nat → Value) → (Nat → Nat) → Act} {F : (Nat → Bool) → (Nat → Value) → (Nat → Nat) → World → Prop} {l ws : List Nat} {o : Oper} (ho : ops[i]? = some o) (hw : waits md ops i = ws) (hn : (ws.all fun j => decide (j < n)) = true)
    (h : ∀ d s b w, Hid (F d s b w) → d i = false → (∀ j, j ∈ ws → d j = true) → ∀ K : Act → World → Prop, Hid (∀ s' b' w', F (upd d i) s' b' w' → K (act s' b') w') → if Region.wanted o (yielded ops (act s b).tmps) = true then Oper.wp P o (act s b) w K Q else K ((act s b).put o.dst undef) w)
    (hs : StepsF P ops Q md n act F l) : StepsF P ops Q md n act F (i :: l) := fun j hj => by
  rcases List.mem_cons.1 hj with rfl | hj
  · intro d s b w hI hd hws
    refine wpOp_step ho fun K hK => h d s b w hI hd (fun k hk => hws k (List.mem_range.2 ?_) ?_) K fun s' b' w' hF => hK _ _ ⟨s', b', rfl, hF⟩
    · simpa using List.all_eq_true.1 hn k hk
    · rw [hw]; simpa using hk
  · exact hs j hj
theorem wp_region_fun {id : Nat} {a : Act} {w : World} (n : Nat) (hm : P.follows .mixedOrders = true) (hlow : lowly .any ops = true) (hn : ops.size = n)
    (act : (Nat → Value) → (Nat → Nat) → Act) (F : (Nat → Bool) → (Nat → Value) → (Nat → Nat) → World → Prop) (ha : a = act (fun j => a.eval (.tmp j)) (fun _ => 0))
    (h0 : F (fun _ => false) (fun j => a.eval (.tmp j)) (fun _ => 0) w.drew)
    (step : StepsF P ops Q .any n act F (List.range n))
    (done : ∀ d s b w', F d s b w' → (∀ i, i ∈ List.range n → d i = true) → Q .normal (act s b) w') : (Code.region id ops true).wp P Q a w :=
  wp_region_inv n hm hlow hn (fun d a w => ∃ s b, a = act s b ∧ F d s b w) ⟨_, _, ha, h0⟩
    (fun i hi d a w hI hd hw => by obtain ⟨s, b, rfl, hF⟩ := hI; exact step i hi d s b w hF hd hw)
    (fun d a w hI hall => by obtain ⟨s, b, rfl, hF⟩ := hI; exact done d s b w hF hall)
end
end Go.Proofs.YtokfhhngnpbdkaaDoor

/- CA -/
namespace Go.Proofs.YtokfhhngnpbdkaaDoor
set_option linter.unusedVariables false
set_option maxRecDepth 2000
set_option linter.unusedSimpArgs false
def in32 (x : Int) : Prop := 0 ≤ x ∧ x < 4294967296
def inB (x : Int) : Prop := 0 ≤ x ∧ x < 256
def add32 (x y : Int) : Int := (x + y) % 4294967296
def xor32 (x y : Int) : Int := ((x.toNat ^^^ y.toNat : Nat) : Int)
/-- turned to the left by n of 32 -/
def rot32 (n : Nat) (x : Int) : Int := (((x.toNat * 2 ^ n) % 4294967296 ||| x.toNat / 2 ^ (32 - n) : Nat) : Int)
def bv (x : Int) : BitVec 32 := BitVec.ofNat 32 x.toNat
/-- four numbers -/
structure Four where
  a : Int
  b : Int
  c : Int
  d : Int
def in4 (s : Four) : Prop := in32 s.a ∧ in32 s.b ∧ in32 s.c ∧ in32 s.d
/-- half of a quarter: a = a + b; d turned by m; c = c + d; b turned by n -/
def halfQ (m n : Nat) (s : Four) : Four :=
  ⟨add32 s.a s.b, rot32 n (xor32 s.b (add32 s.c (rot32 m (xor32 s.d (add32 s.a s.b))))), add32 s.c (rot32 m (xor32 s.d (add32 s.a s.b))), rot32 m (xor32 s.d (add32 s.a s.b))⟩
def quarterF (s : Four) : Four := halfQ 8 7 (halfQ 16 12 s)
end Go.Proofs.YtokfhhngnpbdkaaDoor

/- CB -/
namespace Go.Proofs.YtokfhhngnpbdkaaDoor
set_option linter.unusedVariables false
set_option maxRecDepth 2000
set_option linter.unusedSimpArgs false
open Go.RowKit
end Go.Proofs.YtokfhhngnpbdkaaDoor

/- CC -/
namespace Go.Proofs.YtokfhhngnpbdkaaDoor
set_option linter.unusedVariables false
set_option maxRecDepth 2000
set_option linter.unusedSimpArgs false
open Go.RowKit

end Go.Proofs.YtokfhhngnpbdkaaDoor

/- CD -/
namespace Go.Proofs.YtokfhhngnpbdkaaDoor
set_option linter.unusedVariables false
set_option maxRecDepth 2000
set_option linter.unusedSimpArgs false
open Go.RowKit
/-- the cells of an array of n numbers of kind k -/
def nums (k : IntKind) (f : Nat → Int) (n : Nat) : List Value := (List.range n).map fun i => .int k (f i)
theorem nums_length (k : IntKind) (f : Nat → Int) (n : Nat) : (nums k f n).length = n := by simp [nums]
theorem nums_at (k : IntKind) (f : Nat → Int) {n i : Nat} (h : i < n) : (nums k f n)[i]? = some (.int k (f i)) := by simp [nums, h]
theorem nums_out (k : IntKind) (f : Nat → Int) {n i : Nat} (h : n ≤ i) : (nums k f n)[i]? = none := by simp [nums, h]
theorem nums_one (k : IntKind) (f : Nat → Int) (n : Nat) : ∀ v ∈ nums k f n, v.oneCell' = true := by
  intro v hv
  simp [nums] at hv
  obtain ⟨i, _, rfl⟩ := hv
  rfl
theorem nums_congr (k : IntKind) {f g : Nat → Int} {n : Nat} (h : ∀ i, i < n → f i = g i) : nums k f n = nums k g n := by
  unfold nums
  apply List.map_congr_left
  intro i hi
  rw [h i (by simpa using hi)]
/-- one number turned -/
def at1 (f : Nat → Int) (i : Nat) (v : Int) : Nat → Int := fun j => if j = i then v else f j
/-- AS ONE STEP OF A REGION THAT DRAWS ITS ORDER: a load of a whole array -/
theorem step_load {P : Program} {ops : Array Oper} {o : Oper} {a : Act} {w : World} {K : Act → World → Prop} {Q : Exit → Act → World → Prop} {E : Prop}
    (hw : Region.wanted o (yielded ops a.tmps) = true) (ty : TypeId) (x : Operand) (ho : o.op = .load ty x)
    (b off : Nat) (hx : a.eval x = .pointer (some ⟨b, off, none⟩)) (cs : List Value) (d : TypeDesc) (hc : w.rangeAt b off cs)
    (hu : P.underlying ty = some d) (hd : d.isRow = true) (hi : (P.info? ty).map (·.size) = some cs.length)
    (h : K (a.put o.dst (.agg cs.toArray)) w) : if Region.wanted o (yielded ops a.tmps) = true then Oper.wp P o a w K Q else E := by
  rw [if_pos hw]
  exact wp_load_mid ty x ho b off hx cs d hc hu hd hi h
/-- a result that is a variable's content -/
theorem res_cell {P : Program} {fn : Func} {tmps : Array Value} {w : World} {r T : Nat} {a : Addr} {v : Value} (hf : fn.results = #[.cell r T]) (ha : tmps[r]?.getD undef = .pointer (some a)) (hl : (loadVar T a).run P w = .ok v w) :
    (results fn tmps).run P w = .ok v w := by
  have hx : (asAddr (Value.pointer (some a))).run P w = .ok a w := by simp [asAddr]
  simp [results, hf, ha, hx, hl]
/-- the number of four bytes, least significant first -/
def word (g : Nat → Int) (o : Nat) : Int := g o + 256 * g (o + 1) + 65536 * g (o + 2) + 16777216 * g (o + 3)
end Go.Proofs.YtokfhhngnpbdkaaDoor

/- CE -/
namespace Go.Proofs.YtokfhhngnpbdkaaDoor
set_option linter.unusedVariables false
set_option maxRecDepth 2000
set_option linter.unusedSimpArgs false
open Go.RowKit
end Go.Proofs.YtokfhhngnpbdkaaDoor

/- CF -/
namespace Go.Proofs.YtokfhhngnpbdkaaDoor
set_option linter.unusedVariables false
set_option maxRecDepth 2000
set_option linter.unusedSimpArgs false
open Go.RowKit
def stF (kf : Nat → Int) (c : Int) (nf : Nat → Int) (j : Nat) : Int :=
  if j = 0 then 1634760805 else if j = 1 then 857760878 else if j = 2 then 2036477234 else if j = 3 then 1797285236
  else if j < 12 then word kf (4 * (j - 4)) else if j = 12 then c else word nf (4 * (j - 13))
end Go.Proofs.YtokfhhngnpbdkaaDoor

/- CG -/
namespace Go.Proofs.YtokfhhngnpbdkaaDoor
set_option linter.unusedVariables false
set_option maxRecDepth 2000
set_option linter.unusedSimpArgs false
open Go.RowKit
end Go.Proofs.YtokfhhngnpbdkaaDoor

/- CH -/
namespace Go.Proofs.YtokfhhngnpbdkaaDoor
set_option linter.unusedVariables false
set_option maxRecDepth 2000
set_option linter.unusedSimpArgs false
open Go.RowKit
/-- the k-th index of the i-th group -/
def grp (k i : Nat) : Nat := 4 * k + (i + k * (i / 4)) % 4
def GL : List Value := [.int .i64 0, .int .i64 4, .int .i64 8, .int .i64 12, .int .i64 1, .int .i64 5, .int .i64 9, .int .i64 13, .int .i64 2, .int .i64 6, .int .i64 10, .int .i64 14, .int .i64 3, .int .i64 7, .int .i64 11, .int .i64 15, .int .i64 0, .int .i64 5, .int .i64 10, .int .i64 15, .int .i64 1, .int .i64 6, .int .i64 11, .int .i64 12, .int .i64 2, .int .i64 7, .int .i64 8, .int .i64 13, .int .i64 3, .int .i64 4, .int .i64 9, .int .i64 14]
def qAt (s : Nat → Int) (a b c d : Nat) : Nat → Int :=
  at1 (at1 (at1 (at1 s a (quarterF ⟨s a, s b, s c, s d⟩).a) b (quarterF ⟨s a, s b, s c, s d⟩).b) c (quarterF ⟨s a, s b, s c, s d⟩).c) d (quarterF ⟨s a, s b, s c, s d⟩).d
def inS (s : Nat → Int) : Prop := ∀ i, i < 16 → in32 (s i)
def partR (s : Nat → Int) : Nat → Nat → Int
  | 0 => s
  | i + 1 => qAt (partR s i) (grp 0 i) (grp 1 i) (grp 2 i) (grp 3 i)
def roundF (s : Nat → Int) : Nat → Int := partR s 8
def iterR (s : Nat → Int) : Nat → Nat → Int
  | 0 => s
  | t + 1 => roundF (iterR s t)
end Go.Proofs.YtokfhhngnpbdkaaDoor

/- CI -/
namespace Go.Proofs.YtokfhhngnpbdkaaDoor
set_option linter.unusedVariables false
set_option maxRecDepth 2000
set_option linter.unusedSimpArgs false
open Go.RowKit

end Go.Proofs.YtokfhhngnpbdkaaDoor

/- CJ -/
namespace Go.Proofs.YtokfhhngnpbdkaaDoor
set_option linter.unusedVariables false
set_option maxRecDepth 2000
set_option linter.unusedSimpArgs false
open Go.RowKit
/-- the i-th byte of a block -/
def blkF (kf : Nat → Int) (c : Int) (nf : Nat → Int) (i : Nat) : Int :=
  (iterR (stF kf c nf) 10 (i / 4) + stF kf c nf (i / 4)) % 4294967296 / 2 ^ (8 * (i % 4)) % 256
def upto (F : Nat → Int) (n : Nat) : Nat → Int := fun j => if j < n then F j else 0
attribute [local go_sem] nums_length

end Go.Proofs.YtokfhhngnpbdkaaDoor

/- CK -/
namespace Go.Proofs.YtokfhhngnpbdkaaDoor
set_option linter.unusedVariables false
set_option maxRecDepth 2000
set_option linter.unusedSimpArgs false
open Go.RowKit
attribute [local go_sem] nums_length
end Go.Proofs.YtokfhhngnpbdkaaDoor

/- CL -/
namespace Go.Proofs.YtokfhhngnpbdkaaDoor
set_option linter.unusedVariables false
set_option maxRecDepth 2000
set_option linter.unusedSimpArgs false
open Go.RowKit

end Go.Proofs.YtokfhhngnpbdkaaDoor

/- CO -/
namespace Go.Proofs.YtokfhhngnpbdkaaDoor
set_option linter.unusedVariables false
set_option maxRecDepth 2000
set_option linter.unusedSimpArgs false
open Go.RowKit
attribute [local go_sem] nums_length
/-- the i-th byte of the stream -/
def strF (kf : Nat → Int) (c : Int) (nf : Nat → Int) (i : Nat) : Int := blkF kf ((c + (i / 64 : Nat)) % 4294967296) nf (i % 64)
theorem nums_append (q : IntKind) (f g : Nat → Int) (a b : Nat) (h : ∀ j, j < b → f (a + j) = g j) : nums q f a ++ nums q g b = nums q f (a + b) := by
  apply List.ext_getElem?
  intro j
  by_cases h1 : j < a
  · rw [List.getElem?_append_left (by rw [nums_length]; exact h1), nums_at _ _ h1, nums_at _ _ (by omega)]
  · rw [List.getElem?_append_right (by rw [nums_length]; omega), nums_length]
    by_cases h2 : j < a + b
    · rw [nums_at _ _ (by omega), nums_at _ _ h2, ← h (j - a) (by omega), show a + (j - a) = j by omega]
    · rw [nums_out _ _ (by omega), nums_out _ _ (by omega)]
theorem infoB : (Tryd.prog.info? 5).map (fun i => (i.zero, i.size, i.bytes)) = some (some (.int .u8 0), 1, 1) := by kernel_rfl
theorem infoB_parts : ∃ i, Tryd.prog.info? 5 = some i ∧ i.zero = some (.int .u8 0) ∧ i.size = 1 ∧ i.bytes = 1 := by
  obtain ⟨i, hi, h⟩ := Option.map_eq_some_iff.1 infoB
  simp only [Prod.mk.injEq] at h
  exact ⟨i, hi, h.1, h.2.1, h.2.2⟩
def slLen : Value → Nat
  | .slice _ n _ => n
  | _ => 0
theorem row_form {w : World} {base size n : Nat} {e : TypeId} {v : Value} {xs : List Value} (h : w.ownsRow base e size v n xs) : ∃ p c, v = .slice p n c ∧ n ≤ c := by
  rcases h.2 with ⟨rfl, rfl⟩ | ⟨g, cap, cur, rfl, _, _, hc, _⟩
  · exact ⟨none, 0, rfl, Nat.le_refl _⟩
  · exact ⟨_, cap, rfl, hc⟩

end Go.Proofs.YtokfhhngnpbdkaaDoor

/- CP -/
namespace Go.Proofs.YtokfhhngnpbdkaaDoor
set_option linter.unusedVariables false
set_option maxRecDepth 2000
set_option linter.unusedSimpArgs false
open Go.RowKit
attribute [local go_sem] nums_length
end Go.Proofs.YtokfhhngnpbdkaaDoor

/- CQ -/
namespace Go.Proofs.YtokfhhngnpbdkaaDoor
set_option linter.unusedVariables false
set_option maxRecDepth 2000
set_option linter.unusedSimpArgs false
open Go.RowKit
theorem sliced_head (p : Option Addr) (h c S : Nat) : sliced p 0 h c S = .slice p h c := by
  cases p with
  | none => simp [sliced]
  | some a => cases a; simp [sliced, Addr.add]
attribute [local go_sem ↓ high] sliced_head
/-- a slice of bytes that holds f's first n -/
def Byt (w : World) (q : Option Addr) (n : Nat) (f : Nat → Int) : Prop := n = 0 ∨ ∃ b off, q = some ⟨b, off, none⟩ ∧ Has b off (nums .u8 f n) w
theorem Byt.later {w w' : World} {q : Option Addr} {n : Nat} {f : Nat → Int} (h : Byt w q n f) (hb : Below w.heap.size w w') : Byt w' q n f := by
  rcases h with h | ⟨b, off, h1, h2⟩
  · exact .inl h
  · exact .inr ⟨b, off, h1, h2.later hb⟩
/-- a list of np parts: together they hold g; T: where each begins -/
def Parts (w : World) (p : Option Addr) (np : Nat) (g : Nat → Int) (T : Nat → Nat) : Prop := ∀ k, k < np → ∃ D o q m c, p = some ⟨D, o, none⟩ ∧ D < w.heap.size ∧ w.cell? ⟨D, o + k, none⟩ = some (.slice q m c) ∧ m ≤ c ∧ c ≤ 9223372036854775807 ∧ T (k + 1) = T k + m ∧ Byt w q m (fun j => g (T k + j))
theorem Parts.later {w w' : World} {p : Option Addr} {np : Nat} {g : Nat → Int} {T : Nat → Nat} (h : Parts w p np g T) (hb : Below w.heap.size w w') : Parts w' p np g T := fun k hk => by
  obtain ⟨D, o, q, m, c, h1, h2, h3, h4, h5, h6, h7⟩ := h k hk
  exact ⟨D, o, q, m, c, h1, Nat.lt_of_lt_of_le h2 hb.size, (hb.cell (p := ⟨D, o + k, none⟩) h2).trans h3, h4, h5, h6, h7.later hb⟩
theorem run_append_zero {P : Program} {w : World} {base size n t ty : Nat} {e : TypeId} {i : TypeInfo} {v : Value} {xs : List Value} (ht : P.underlying t = some (.slice e)) (hi : P.info? e = some i) (hown : w.ownsRow base e size v n xs) (q : Option Addr) (c : Nat) :
    (Builtin.append_ #[t, t] ty #[v, .slice q 0 c]).run P w = .ok v w := by
  have hl : ∀ (x : Addr), (loadCells x 0).run P w = .ok #[] w := fun x => by simpa using run_loadCells_list (P := P) w x [] (by simp)
  rcases hown.2 with ⟨rfl, rfl⟩ | ⟨g, cap, cur, rfl, _, _, hnc, _⟩
  · cases q <;> simp [Builtin.append_, run_underlying ht, sizeOf, typeInfo, hi, Builtin.lenOf, Builtin.firstCells, hl]
  · cases q <;> simp [Builtin.append_, run_underlying ht, sizeOf, typeInfo, hi, Builtin.lenOf, Builtin.firstCells, hnc, storeCells, hl]
theorem wpList_append_zero {P : Program} {w : World} {ops : Array Oper} {rest : List Oper} {o : Oper} {a : Act} {Q : Exit → Act → World → Prop} (hgd : o.guard = none) (s x : Operand) (t : TypeId)
    (ho : o.op = .call { callee := .builtin .append, args := #[s, x], argTypes := #[t, t] }) {base size n : Nat} {e : TypeId} {i : TypeInfo} {v : Value} {xs : List Value} (ht : P.underlying t = some (.slice e)) (hi : P.info? e = some i)
    (hs : a.eval s = v) (hown : w.ownsRow base e size v n xs) (q : Option Addr) (c : Nat) (hx : a.eval x = .slice q 0 c) (h : wpList P ops Q rest (a.put o.dst v) w) : wpList P ops Q (o :: rest) a w :=
  wpList_plain hgd fun K hK => by
    unfold Oper.wp
    simp [execOp, ho, resolve, invoke, builtin, hs, hx, run_append_zero (P := P) (ty := o.type) ht hi hown q c, Result.andThen]
    exact hK _ _ h

end Go.Proofs.YtokfhhngnpbdkaaDoor

/- CR -/
namespace Go.Proofs.YtokfhhngnpbdkaaDoor
set_option linter.unusedVariables false
set_option maxRecDepth 2000
set_option linter.unusedSimpArgs false
open Go.RowKit
def xorB (x y : Int) : Int := bits .xor .u8 x y
/-- the first i bytes combined -/
def mixF (g s : Nat → Int) (i : Nat) : Nat → Int := fun j => if j < i then xorB (g j) (s j) else g j
theorem row_blk {w : World} {base size n : Nat} {e : TypeId} {v : Value} {xs : List Value} (h : w.ownsRow base e size v n xs) (hn : 0 < n) : ∃ X c, v = .slice (some ⟨X, 0, none⟩) n c ∧ base ≤ X ∧ X < w.heap.size := by
  rcases h.2 with ⟨_, h0⟩ | ⟨X, c, cur, rfl, h1, h2, _⟩
  · omega
  · exact ⟨X, c, rfl, h1, (Array.getElem?_eq_some_iff.1 h2).1⟩

end Go.Proofs.YtokfhhngnpbdkaaDoor

/- CS -/
namespace Go.Proofs.YtokfhhngnpbdkaaDoor
set_option linter.unusedVariables false
set_option maxRecDepth 2000
set_option linter.unusedSimpArgs false
open Go.RowKit

end Go.Proofs.YtokfhhngnpbdkaaDoor

/- CT -/
namespace Go.Proofs.YtokfhhngnpbdkaaDoor
set_option linter.unusedVariables false
set_option maxRecDepth 2000
set_option linter.unusedSimpArgs false
open Go.RowKit
theorem conv_any (q : Option Addr) (n c : Nat) (f : Nat → Int) (w : World) (h : Byt w q n f) :
    (convert 48 9 (.slice q n c)).run Tryd.prog w = .ok (.string (strOfNums ((List.range n).map f))) w := by
  by_cases hn : n = 0
  · subst hn
    exact run_convert_bytes_zero w 48 5 Tryd.underlying48 Tryd.underlying5 q c 9 Tryd.underlying9
  · obtain ⟨b, off, rfl, hb⟩ := h.resolve_left hn
    exact run_convert_bytes_arg (P := Tryd.prog) w 48 5 Tryd.underlying48 Tryd.underlying5 b off n c ((List.range n).map f) (by simp) (fun i hi => by
      rw [hb.cell i _ (nums_at _ _ hi)]
      simp [hi]) 9 Tryd.underlying9

theorem Equal_any (q1 q2 : Option Addr) (n c1 c2 : Nat) (f : Nat → Int) (w : World) (h1 : Byt w q1 n f) (h2 : Byt w q2 n f) : Calls Tryd.prog 18 #[.slice q1 n c1, .slice q2 n c2] w fun e w' => e = .returned (.bool true) ∧ Below w.heap.size w w' := by
  have e1 := conv_any q1 n c1 f w h1
  have e2 := conv_any q2 n c2 f w h2
  generalize strOfNums ((List.range n).map f) = S at *
  clear h1 h2
  go_enter Tryd.func18, Tryd.ntmps18
  go_wp2_with (fail)
  go_ret
  exact ⟨rfl, Below.refl _ _⟩
end Go.Proofs.YtokfhhngnpbdkaaDoor

/- CU -/
namespace Go.Proofs.YtokfhhngnpbdkaaDoor
set_option linter.unusedVariables false
set_option maxRecDepth 2000
set_option linter.unusedSimpArgs false
open Go.RowKit
/-- a key, a counter, a nonce as one struct's cells -/
def seedC (kf : Nat → Int) (c : Int) (nf : Nat → Int) : List Value := nums .u8 kf 32 ++ (.int .u32 c :: nums .u8 nf 12)
theorem byt_row {w : World} {base n : Nat} {e : TypeId} {q : Option Addr} {m c : Nat} {f : Nat → Int} (h : w.ownsRow base e 1 (.slice q m c) n (nums .u8 f n)) : m = n ∧ Byt w q n f := by
  rcases h.2 with ⟨h0, rfl⟩ | ⟨g, cap, cur, h0, _, hg, _⟩
  · cases h0; exact ⟨rfl, .inl rfl⟩
  · cases h0; exact ⟨rfl, .inr ⟨g, 0, rfl, (row_has h).1⟩⟩
/-- the address behind the first l bytes -/
def slq (p : Option Addr) (l c : Nat) : Option Addr := if c = l then p else p.map (·.add l)
theorem sliced_one (p : Option Addr) (l h c : Nat) : sliced p l h c 1 = .slice (slq p l c) (h - l) (c - l) := by
  unfold sliced slq
  rw [Nat.mul_one]
attribute [local go_sem ↓ high] sliced_head sliced_one

end Go.Proofs.YtokfhhngnpbdkaaDoor

/- CV -/
namespace Go.Proofs.YtokfhhngnpbdkaaDoor
set_option linter.unusedVariables false
set_option maxRecDepth 2000
set_option linter.unusedSimpArgs false
open Go.RowKit
attribute [local go_sem ↓ high] sliced_head sliced_one
/-- a slice of n bytes of f -/
def RowR (w : World) (v : Value) (n : Nat) (f : Nat → Int) : Prop := ∃ q c, v = .slice q n c ∧ n ≤ c ∧ c ≤ 9223372036854775807 ∧ Byt w q n f
theorem RowR.later {w w' : World} {B : Nat} {v : Value} {n : Nat} {f : Nat → Int} (h : RowR w v n f) (hb : Below B w w') (hB : w.heap.size ≤ B) : RowR w' v n f := by
  obtain ⟨q, c, h1, h2, h3, h4⟩ := h
  exact ⟨q, c, h1, h2, h3, h4.later (hb.mono hB)⟩
theorem RowR.of {w : World} {base n : Nat} {e : TypeId} {v : Value} {f : Nat → Int} (h : w.ownsRow base e 1 v n (nums .u8 f n)) : RowR w v n f := by
  obtain ⟨q, c, rfl, hc⟩ := row_form h
  refine ⟨q, c, rfl, hc, ?_, (byt_row h).2⟩
  rcases h.2 with ⟨h0, _⟩ | ⟨g, cap, cur, h0, _, _, _, hm, _⟩
  · cases h0; decide
  · cases h0; unfold maxLen at hm; omega
/-- one part -/
def T1 (m k : Nat) : Nat := if k = 0 then 0 else m
end Go.Proofs.YtokfhhngnpbdkaaDoor

/- PC -/
namespace Go.Proofs.YtokfhhngnpbdkaaDoor
set_option linter.unusedVariables false
set_option maxRecDepth 2000
set_option linter.unusedSimpArgs false
open Go.ChangeShapes Go.WideShapes Go.ChangeAt Go.RowKit Go.Joins Go.Deep

theorem trod_arr {H : Type} {enc : TypeId × Value → H} {P : Program} {w : World} {base : Nat} {spare : Nat → Bool} {held : Bool} {t e : TypeId} {n : Nat} {k : IntKind} {fuel : Nat} {cs : List Value} {x : DataW H × List MemPlace}
    (ht : P.underlying t = some (.array n e)) (he : P.underlying e = some (.int k)) (h1 : P.cellsOf e = 1) (hC : P.cellsOf t = n) (h : DataW.trod enc P w base spare held fuel t cs = some x) :
    ∃ zs : List Int, zs.length = n ∧ cs = zs.map (Value.int k) ∧ ∀ z ∈ zs, (Lit.int k z).wf = true := by
  obtain ⟨xs, m, _, _, hl, hlen, hf⟩ := DataW.trod_array ht h
  rw [hC] at hl
  have el : ∀ i (hi : i < cs.length), ∃ z, cs[i] = .int k z ∧ (Lit.int k z).wf = true := by
    intro i hi
    have hq := hf i (by omega)
    rw [h1, Nat.mul_one, List.getElem?_eq_getElem (by omega)] at hq
    obtain ⟨z, e1, _, wz⟩ := DataW.trod_int he hq
    refine ⟨z, ?_, wz⟩
    have : ((cs.drop i).take 1)[0]? = some (.int k z) := by rw [e1]; rfl
    rw [List.getElem?_take_of_lt (by omega), List.getElem?_drop, Nat.add_zero, List.getElem?_eq_getElem hi] at this
    simpa using this
  refine ⟨cs.map intOf, by simp [hl], ?_, ?_⟩
  · rw [List.map_map]
    apply List.ext_getElem
    · simp
    · intro i h1 h2
      obtain ⟨z, e1, _⟩ := el i h1
      simp [e1, intOf]
  · intro z hz
    obtain ⟨v, hv, rfl⟩ := List.mem_map.1 hz
    obtain ⟨i, hi, rfl⟩ := List.getElem_of_mem hv
    obtain ⟨z, e1, wz⟩ := el i hi
    rw [e1]; exact wz

theorem u8_wf {z : Int} (h : (Lit.int .u8 z).wf = true) : 0 ≤ z ∧ z < 256 := by
  have : 0 ≤ z ∧ z ≤ 255 := by simpa [Lit.wf, IntKind.min, IntKind.max, IntKind.signed, IntKind.bits] using h
  omega
theorem i64_wfc {z : Int} (h : (Lit.int .i64 z).wf = true) : -9223372036854775808 ≤ z ∧ z ≤ 9223372036854775807 := by simpa [Lit.wf, IntKind.min, IntKind.max, IntKind.signed, IntKind.bits] using h
end Go.Proofs.YtokfhhngnpbdkaaDoor

/- PE -/
namespace Go.Proofs.YtokfhhngnpbdkaaDoor
set_option linter.unusedVariables false
set_option maxRecDepth 2000
set_option linter.unusedSimpArgs false
open Go.ChangeShapes Go.WideShapes Go.ChangeAt Go.RowKit Go.Joins Go.Deep
end Go.Proofs.YtokfhhngnpbdkaaDoor

/- PS -/
namespace Go.Proofs.YtokfhhngnpbdkaaDoor
set_option linter.unusedVariables false
set_option maxRecDepth 2000
set_option linter.unusedSimpArgs false
open Go.ChangeShapes Go.WideShapes Go.ChangeAt Go.RowKit Go.Joins Go.Deep

/-- a slice of n elements of S cells each, of each of which Q holds: f k are the k-th one's cells -/
structure Sl (w : World) (p : Option Addr) (n cap S : Nat) (f : Nat → List Value) (Q : List Value → Prop) : Prop where
  le : n ≤ cap
  max : cap ≤ 9223372036854775807
  q : ∀ k, k < n → Q (f k)
  row : n = 0 ∨ ∃ blk off, p = some ⟨blk, off, none⟩ ∧ blk < w.heap.size ∧ ∀ k, k < n → Has blk (off + k * S) (f k) w

theorem open_sl {H : Type} {enc : TypeId × Value → H} {P : Program} {w : World} {base : Nat} {spare : Nat → Bool} {held : Bool} {r : Reach} {b0 : Nat} {t e : TypeId} {v : Value} {d : DataW H} {pl : List MemPlace} {S : Nat} (Q : List Value → Prop)
    (ht : P.underlying t = some (.slice e)) (hC : P.cellsOf e = S) (hS : 0 < S)
    (hQ : ∀ fuel cs x, DataW.trod enc P w base spare held fuel e cs = some x → cs.length = S → Q cs)
    (hv : Value.okWide P w r b0 t v) (h : DataW.Trod enc P w base spare held t v d pl) (hlt : ∀ x ∈ pl, x.block < w.heap.size) :
    ∃ p n cap f, v = .slice p n cap ∧ Sl w p n cap S f Q := by
  obtain ⟨a0, len, cap, rfl⟩ := okWide_slice ht hv
  obtain ⟨fuel, hf⟩ := h
  rcases DataW.trod_slice ht hf with ⟨h0, _⟩ | ⟨a, len', cap', elems, rest, n, _, hcs, hx, hb, hl, hm, hlen, hel, _, _⟩
  · simp [Value.cells] at h0
    obtain ⟨rfl, rfl, rfl⟩ := h0
    exact ⟨none, 0, 0, fun _ => [], rfl, ⟨Nat.le_refl _, by omega, fun k hk => absurd hk (Nat.not_lt_zero k), .inl rfl⟩⟩
  · simp [Value.cells] at hcs
    obtain ⟨rfl, rfl, rfl⟩ := hcs
    unfold maxLen at hm
    have key : ∀ i, i < len → ∃ cs : List Value, cs.length = S ∧ Q cs ∧ ∀ j, j < S → w.cell? ((a.add (i * S)).add j) = cs[j]? := fun i hi => by
      have hy : elems[i]? = some (elems[i]'(by omega)) := List.getElem?_eq_getElem (by omega)
      have hb' := (hel i hi).trans hy
      rw [hC, Option.bind_eq_some_iff] at hb'
      obtain ⟨c3, hcs, hy'⟩ := hb'
      obtain ⟨_, hc3, hcell⟩ := World.cells?_some hcs
      exact ⟨c3, hc3, hQ _ _ _ hy' hc3, hcell⟩
    by_cases hl0 : len = 0
    · subst hl0
      exact ⟨some a, 0, cap, fun _ => [], rfl, ⟨by omega, by omega, fun k hk => absurd hk (Nat.not_lt_zero k), .inl rfl⟩⟩
    · obtain ⟨blk, off, spot⟩ := a
      have hspot : spot = none := by
        obtain ⟨cs, hc, _, hcell⟩ := key 0 (by omega)
        have h0 := hcell 0 hS
        rw [List.getElem?_eq_getElem (by omega)] at h0
        simpa [Addr.add] using World.cell?_spot h0
      subst hspot
      have hbk : blk < w.heap.size := by
        refine hlt (.cell blk off) ?_
        rw [Prod.mk.injEq] at hx
        rw [hx.2]
        refine List.mem_append.2 (Or.inl (MemPlace.mem_row.2 ⟨0, ?_, by simp⟩))
        rw [hC, hlen]
        exact Nat.mul_pos (by omega) hS
      have ch : ∀ k, ∃ cs : List Value, k < len → cs.length = S ∧ Q cs ∧ ∀ j, j < S → w.cell? (((⟨blk, off, none⟩ : Addr).add (k * S)).add j) = cs[j]? := fun k => by
        by_cases hk : k < len
        · obtain ⟨cs, h1⟩ := key k hk
          exact ⟨cs, fun _ => h1⟩
        · exact ⟨[], fun h => absurd h hk⟩
      refine ⟨some ⟨blk, off, none⟩, len, cap, fun k => Classical.choose (ch k), rfl, ⟨hl, by omega, fun k hk => (Classical.choose_spec (ch k) hk).2.1, .inr ⟨blk, off, rfl, hbk, fun k hk => ⟨hbk, fun j v hj => ?_⟩⟩⟩⟩
      obtain ⟨h1, _, h3⟩ := Classical.choose_spec (ch k) hk
      have hjS : j < S := by
        rw [← h1]
        exact (List.getElem?_eq_some_iff.1 hj).1
      have h4 := h3 j hjS
      have ea : ((⟨blk, off, none⟩ : Addr).add (k * S)).add j = ⟨blk, off + k * S + j, none⟩ := by rw [Addr.add_mid, Addr.add_mid]
      rw [← ea]
      exact h4.trans hj
/-- the first m elements -/
theorem Sl.take {w : World} {p : Option Addr} {n cap S m : Nat} {f : Nat → List Value} {Q : List Value → Prop} (h : Sl w p n cap S f Q) (hm : m ≤ n) : Sl w p m cap S f Q where
  le := by have := h.le; omega
  max := h.max
  q := fun k hk => h.q k (by omega)
  row := by
    rcases h.row with h0 | ⟨blk, off, hp, hb, hr⟩
    · left; omega
    · right; exact ⟨blk, off, hp, hb, fun k hk => hr k (by omega)⟩
theorem Sl.later {w w' : World} {p : Option Addr} {n cap S : Nat} {f : Nat → List Value} {Q : List Value → Prop} (h : Sl w p n cap S f Q) (hb : Below w.heap.size w w') : Sl w' p n cap S f Q where
  le := h.le
  max := h.max
  q := h.q
  row := by
    rcases h.row with h0 | ⟨blk, off, hp, hk, hr⟩
    · exact .inl h0
    · exact .inr ⟨blk, off, hp, Nat.lt_of_lt_of_le hk hb.size, fun k hk2 => (hr k hk2).later hb⟩

/-! ### structs of an int64 and a uint64 -/
def isWd (cs : List Value) : Prop := ∃ h l : Int, cs = [.int .i64 h, .int .u64 l] ∧ (-9223372036854775808 ≤ h ∧ h ≤ 9223372036854775807) ∧ 0 ≤ l ∧ l ≤ 18446744073709551615
end Go.Proofs.YtokfhhngnpbdkaaDoor

/- PF -/
namespace Go.Proofs.YtokfhhngnpbdkaaDoor
set_option linter.unusedVariables false
set_option maxRecDepth 2000
set_option linter.unusedSimpArgs false
open Go.ChangeShapes Go.WideShapes Go.ChangeAt Go.RowKit Go.Joins Go.Deep
def isB (cs : List Value) : Prop := ∃ z : Int, cs = [.int .u8 z] ∧ inB z
theorem cs_byte {H : Type} {enc : TypeId × Value → H} {w : World} {base : Nat} {spare : Nat → Bool} {held : Bool} {fuel : Nat} {cs : List Value} {x : DataW H × List MemPlace}
    (h : DataW.trod enc Tryd.prog w base spare held fuel 5 cs = some x) : isB cs := by
  obtain ⟨z, e, _, wz⟩ := DataW.trod_int Tryd.underlying5 h
  exact ⟨z, e, u8_wf wz⟩
theorem sl_byt {w : World} {p : Option Addr} {n cap : Nat} {f : Nat → List Value} (h : Sl w p n cap 1 f isB) : ∃ g : Nat → Int, Byt w p n g ∧ ∀ j, j < n → inB (g j) := by
  have ch : ∀ k, ∃ z : Int, k < n → f k = [.int .u8 z] ∧ inB z := fun k => by
    by_cases hk : k < n
    · obtain ⟨z, hz⟩ := h.q k hk
      exact ⟨z, fun _ => hz⟩
    · exact ⟨0, fun e => absurd e hk⟩
  refine ⟨fun k => Classical.choose (ch k), ?_, fun j hj => (Classical.choose_spec (ch j) hj).2⟩
  rcases h.row with h0 | ⟨blk, off, hp, hb, hr⟩
  · exact .inl h0
  · refine .inr ⟨blk, off, hp, hb, fun j v hj => ?_⟩
    have hjn : j < n := by
      have := (List.getElem?_eq_some_iff.1 hj).1
      rwa [nums_length] at this
    rw [nums_at _ _ hjn] at hj
    have hc := hr j hjn
    rw [(Classical.choose_spec (ch j) hjn).1, Nat.mul_one] at hc
    exact hc.cell 0 v hj
end Go.Proofs.YtokfhhngnpbdkaaDoor

/- CW -/
namespace Go.Proofs.YtokfhhngnpbdkaaDoor
set_option linter.unusedVariables false
set_option maxRecDepth 2000
set_option linter.unusedSimpArgs false
open Go.RowKit
/-- where the k-th part begins -/
def sumT (t : Nat → Nat) : Nat → Nat
  | 0 => 0
  | k + 1 => sumT t k + t k
/-- the first parts as one -/
def catF (t : Nat → Nat) (f : Nat → Nat → Int) : Nat → Nat → Int
  | 0, _ => 0
  | k + 1, x => if x < sumT t k then catF t f k x else f k (x - sumT t k)
theorem rows_ne {w : World} {base base' s s' n n' : Nat} {e e' : TypeId} {v v' : Value} {xs xs' : List Value} (h : w.ownsRow base e s v n xs) (h' : w.ownsRow base' e' s' v' n' xs') (he : e ≠ e') : v.ownBlock = none ∨ v.ownBlock ≠ v'.ownBlock := by
  rcases h.2 with ⟨rfl, _⟩ | ⟨g, cap, cur, rfl, _, hg, _⟩
  · exact .inl rfl
  · refine .inr ?_
    rcases h'.2 with ⟨rfl, _⟩ | ⟨g', cap', cur', rfl, _, hg', _⟩
    · simp [Value.ownBlock]
    · simp only [Value.ownBlock, ne_eq, Option.some.injEq]
      rintro rfl
      rw [hg] at hg'
      simp only [Option.some.injEq, Obj.cells.injEq] at hg'
      exact he hg'.2.1
/-- the cells of the parts -/
def slsF (q : Nat → Option Addr) (t c : Nat → Nat) (n : Nat) : List Value := (List.range n).map fun k => .slice (q k) (t k) (c k)
/-- the list that was handed in -/
def Data (w : World) (p : Option Addr) (np : Nat) (q : Nat → Option Addr) (m c : Nat → Nat) (f : Nat → Nat → Int) : Prop := ∀ k, k < np → ∃ D o, p = some ⟨D, o, none⟩ ∧ D < w.heap.size ∧ w.cell? ⟨D, o + k, none⟩ = some (.slice (q k) (m k) (c k)) ∧ m k ≤ c k ∧ c k ≤ 9223372036854775807 ∧ Byt w (q k) (m k) (f k)
theorem Data.later {w w' : World} {p : Option Addr} {np : Nat} {q : Nat → Option Addr} {m c : Nat → Nat} {f : Nat → Nat → Int} (h : Data w p np q m c f) (hb : Below w.heap.size w w') : Data w' p np q m c f := fun k hk => by
  obtain ⟨D, o, h1, h2, h3, h4, h5, h6⟩ := h k hk
  exact ⟨D, o, h1, Nat.lt_of_lt_of_le h2 hb.size, (hb.cell (p := ⟨D, o + k, none⟩) h2).trans h3, h4, h5, h6.later hb⟩
theorem Equal_R (v1 v2 : Value) (n : Nat) (f : Nat → Int) (w : World) (h1 : RowR w v1 n f) (h2 : RowR w v2 n f) : Calls Tryd.prog 18 #[v1, v2] w fun e w' => e = .returned (.bool true) ∧ Below w.heap.size w w' := by
  obtain ⟨q1, c1, rfl, _, _, b1⟩ := h1
  obtain ⟨q2, c2, rfl, _, _, b2⟩ := h2
  exact Equal_any q1 q2 n c1 c2 f w b1 b2
end Go.Proofs.YtokfhhngnpbdkaaDoor

/- HU -/
namespace Go.Proofs.YtokfhhngnpbdkaaDoor
set_option linter.unusedVariables false
set_option maxRecDepth 2000
set_option linter.unusedSimpArgs false
open Go.RowKit
theorem row_far {w : World} {base size n X : Nat} {e : TypeId} {v : Value} {xs : List Value} (h : w.ownsRow base e size v n xs) (hne : v.ownBlock ≠ some X) (o : Nat) (vs : List Value) : (w.setCells X o vs).ownsRow base e size v n xs := by
  refine ⟨h.1, ?_⟩
  rcases h.2 with hn | ⟨g, cap, cur, rfl, hb, hg, rest⟩
  · exact .inl hn
  · refine .inr ⟨g, cap, cur, rfl, hb, ?_, rest⟩
    rw [World.heap_setCells_other w X o vs (Array.getElem?_eq_some_iff.1 hg).1 (fun e => hne (by rw [e]; rfl))]
    exact hg
theorem row_has' {w : World} {base size n g cap : Nat} {e : TypeId} {xs : List Value} (h : w.ownsRow base e size (.slice (some ⟨g, 0, none⟩) n cap) n xs) : Has g 0 xs w ∧ base ≤ g := by
  rcases h.2 with ⟨h0, _⟩ | ⟨g', cap', cur, hv, hg, hh, h1, h2, h3, h4⟩
  · cases h0
  · cases hv
    refine ⟨⟨(Array.getElem?_eq_some_iff.1 hh).1, fun j v hj => ?_⟩, hg⟩
    rw [cell_of_row w g (0 + j) cur e (0, 0) hh, Nat.zero_add]
    rw [← h4] at hj
    rw [List.getElem?_take] at hj
    split at hj
    · simpa using hj
    · cases hj
theorem has_take {b o n m : Nat} {k : IntKind} {f : Nat → Int} {W : World} (h : Has b o (nums k f n) W) (hm : m ≤ n) : Has b o (nums k f m) W := ⟨h.lt, fun j v hv => by
  have hj : j < m := by have := (List.getElem?_eq_some_iff.1 hv).1; rwa [nums_length] at this
  rw [nums_at _ _ hj] at hv
  exact h.cell j v ((nums_at _ _ (by omega)).trans hv)⟩
theorem has_drop {b o n m i : Nat} {k : IntKind} {f : Nat → Int} {W : World} (h : Has b o (nums k f n) W) (hm : i + m ≤ n) : Has b (o + i) (nums k (fun j => f (i + j)) m) W := ⟨h.lt, fun j v hv => by
  have hj : j < m := by have := (List.getElem?_eq_some_iff.1 hv).1; rwa [nums_length] at this
  rw [nums_at _ _ hj] at hv
  rw [Nat.add_assoc]
  exact h.cell (i + j) v ((nums_at _ _ (by omega)).trans hv)⟩
/-- what is done to one elder block K, and to no other one -/
structure But (K : Nat) (w w' : World) : Prop where
  below : Below K w w'
  heap : ∀ b, b < w.heap.size → b ≠ K → w'.heap[b]? = w.heap[b]?
theorem But.refl (K : Nat) (w : World) : But K w w := ⟨Below.refl _ _, fun _ _ _ => rfl⟩
theorem But.trans {K : Nat} {a b c : World} (h : But K a b) (k : But K b c) : But K a c := ⟨h.below.trans k.below, fun i hi hn => (k.heap i (Nat.lt_of_lt_of_le hi h.below.size) hn).trans (h.heap i hi hn)⟩
theorem But.of {K : Nat} {a b : World} (h : Below a.heap.size a b) (hK : K < a.heap.size) : But K a b := ⟨h.mono (Nat.le_of_lt hK), fun i hi _ => h.block i hi⟩
theorem But.store {K o : Nat} {a : World} {vs : List Value} : But K a (a.setCells K o vs) := ⟨Below.setCells (Below.refl _ _) (Nat.le_refl _) vs o, fun i hi hn => World.heap_setCells_other a K o vs hi hn⟩
theorem But.drew {K : Nat} {a : World} (hK : K < a.heap.size) : But K a a.drew := But.of (Below.refl _ _).drew hK
theorem Has.but {b o K : Nat} {cs : List Value} {w w' : World} (h : Has b o cs w) (hb : But K w w') (hn : b ≠ K) : Has b o cs w' where
  lt := Nat.lt_of_lt_of_le h.lt hb.below.size
  cell := fun j v hv => by rw [World.cell?_of_block (w := w) (a := ⟨b, o + j, none⟩) (hb.heap b h.lt hn)]; exact h.cell j v hv
theorem Own.but {b K : Nat} {cs : List Value} {w w' : World} (h : Own b cs w) (hb : But K w w') (hn : b ≠ K) : Own b cs w' where
  lt := Nat.lt_of_lt_of_le h.lt hb.below.size
  cell := fun j v hv => by rw [World.cell?_of_block (w := w) (a := ⟨b, 0 + j, none⟩) (hb.heap b h.lt hn)]; exact h.cell j v hv
  free := fun j hj => by
    rw [World.cell?_of_block (w := w) (a := ⟨b, 0 + j, none⟩) (hb.heap b h.lt hn), World.frozen?_of_block (w := w) (a := ⟨b, 0 + j, none⟩) (hb.heap b h.lt hn)]
    exact h.free j hj
/-- a slice that holds f's first n bytes, not in K -/
def BytN (w : World) (q : Option Addr) (n : Nat) (f : Nat → Int) (K : Nat) : Prop := n = 0 ∨ ∃ b off, q = some ⟨b, off, none⟩ ∧ b ≠ K ∧ Has b off (nums .u8 f n) w
theorem BytN.but {w w' : World} {q : Option Addr} {n K : Nat} {f : Nat → Int} (h : BytN w q n f K) (hb : But K w w') : BytN w' q n f K := by
  rcases h with h | ⟨b, off, h1, h2, h3⟩
  · exact .inl h
  · exact .inr ⟨b, off, h1, h2, h3.but hb h2⟩
theorem BytN.byt {w : World} {q : Option Addr} {n K : Nat} {f : Nat → Int} (h : BytN w q n f K) : Byt w q n f := by
  rcases h with h | ⟨b, off, h1, _, h3⟩
  · exact .inl h
  · exact .inr ⟨b, off, h1, h3⟩
/-- parts, none of them in K -/
def PartsN (w : World) (p : Option Addr) (np : Nat) (g : Nat → Int) (T : Nat → Nat) (K : Nat) : Prop := ∀ k, k < np → ∃ D o q m c, p = some ⟨D, o, none⟩ ∧ D ≠ K ∧ D < w.heap.size ∧ w.cell? ⟨D, o + k, none⟩ = some (.slice q m c) ∧ m ≤ c ∧ c ≤ 9223372036854775807 ∧ T (k + 1) = T k + m ∧ BytN w q m (fun j => g (T k + j)) K
theorem PartsN.but {w w' : World} {p : Option Addr} {np K : Nat} {g : Nat → Int} {T : Nat → Nat} (h : PartsN w p np g T K) (hb : But K w w') : PartsN w' p np g T K := fun k hk => by
  obtain ⟨D, o, q, m, c, h1, h2, h3, h4, h5, h6, h7, h8⟩ := h k hk
  exact ⟨D, o, q, m, c, h1, h2, Nat.lt_of_lt_of_le h3 hb.below.size, (World.cell?_of_block (w := w) (a := ⟨D, o + k, none⟩) (hb.heap D h3 h2)).trans h4, h5, h6, h7, h8.but hb⟩
theorem But.grown {K : Nat} {E a w' : World} {row : Option Nat} (h : But K E a) (hg : a.grownBy w' row) (hr : ∀ k, row = some k → E.heap.size ≤ k) (hK : K < E.heap.size) : But K E w' :=
  ⟨h.below.grown hg (Nat.le_trans (Nat.le_of_lt hK) h.below.size) (fun k hk => Nat.le_trans (Nat.le_of_lt hK) (hr k hk)), fun b hb hn => by
    rw [hg.block b (Nat.lt_of_lt_of_le hb h.below.size) (fun e => by have := hr b e.symm; omega)]
    exact h.heap b hb hn⟩
theorem row_but {w w' : World} {base s n K : Nat} {e : TypeId} {v : Value} {xs : List Value} (h : w.ownsRow base e s v n xs) (hb : But K w w') (hK : v.ownBlock ≠ some K) : w'.ownsRow base e s v n xs := by
  refine ⟨h.1, ?_⟩
  rcases h.2 with h0 | ⟨g, cap, cur, rfl, hg, hh, hr⟩
  · exact .inl h0
  · exact .inr ⟨g, cap, cur, rfl, hg, (hb.heap g (Array.getElem?_eq_some_iff.1 hh).1 (fun e => hK (by simp [Value.ownBlock, e]))).trans hh, hr⟩
theorem BytN.later {w w' : World} {q : Option Addr} {n K : Nat} {f : Nat → Int} (h : BytN w q n f K) (hb : Below w.heap.size w w') : BytN w' q n f K := by
  rcases h with h | ⟨b, off, h1, h2, h3⟩
  · exact .inl h
  · exact .inr ⟨b, off, h1, h2, h3.later hb⟩
theorem row_cap_ {w : World} {base size n c : Nat} {e : TypeId} {p : Option Addr} {xs : List Value} (h : w.ownsRow base e size (.slice p n c) n xs) : n ≤ c ∧ c ≤ 9223372036854775807 := by
  rcases h.2 with ⟨h0, _⟩ | ⟨g, cap, cur, h0, _, _, h1, h2, _⟩
  · cases h0; decide
  · cases h0; unfold maxLen at h2; omega
theorem wpList_append_b {w : World} {ops : Array Oper} {rest : List Oper} {o : Oper} {a : Act} {Q : Exit → Act → World → Prop} (hgd : o.guard = none) (s x : Operand)
    (ho : o.op = .call { callee := .builtin .append, args := #[s, x], argTypes := #[48, 48] }) (base : Nat) (v : Value) (L : Nat) (xs : List Value) (hs : a.eval s = v) (hown : w.ownsRow base 5 1 v L xs)
    (q : Option Addr) (n c : Nat) (f : Nat → Int) (hx : a.eval x = .slice q n c) (hby : Byt w q n f) (h63 : L + n ≤ 140737488355328) (hbase : base ≤ w.heap.size)
    (h : ∀ v' w', w'.ownsRow base 5 1 v' (L + n) (xs ++ nums .u8 f n) → w.grownBy w' v.ownBlock → wpList Tryd.prog ops Q rest (a.put o.dst v') w') : wpList Tryd.prog ops Q (o :: rest) a w := by
  obtain ⟨i0, hi, hz0, hz1, hz2⟩ := infoB_parts
  rcases hby with h0 | ⟨b, off, rfl, hb⟩
  · subst h0
    refine wpList_append_zero hgd s x 48 ho Tryd.underlying48 hi hs hown q c hx (h v w ?_ (World.grownBy.refl w _))
    rw [Nat.add_zero, show nums .u8 f 0 = [] from rfl, List.append_nil]
    exact hown
  · exact wpList_append_own _ hgd s x 48 ho base 5 i0 (.int .u8 0) 1 1 Tryd.underlying48 hi hz0 hz1 hz2 rfl (by decide) v L xs hs hown ⟨b, off, none⟩ n c (nums .u8 f n) hx (by rw [nums_length, Nat.mul_one]) (fun j u hj => by rw [Addr.add_mid]; exact hb.cell j u hj) (nums_one _ _ _) (by unfold maxLen; omega) (by omega) hbase (fun v' w' h1 h2 _ => h v' w' h1 h2)

end Go.Proofs.YtokfhhngnpbdkaaDoor

/- PJ -/
namespace Go.Proofs.YtokfhhngnpbdkaaDoor
set_option linter.unusedVariables false
set_option maxRecDepth 2000
open Go.ChangeShapes Go.WideShapes Go.ChangeAt Go.RowKit Go.Joins Go.Deep
end Go.Proofs.YtokfhhngnpbdkaaDoor

