/- umbraref03.Toward: the document's direction. -/
import Derived.Test.YtgggngcgcpmkbaaVJ
import Derived.Test.YtgggngcgcpmkbaaWE
import Derived.LoopTactic
import Derived.BigQuiet
import Derived.Deep.QuietTactic
import Derived.StillTailTactics
namespace Go.Proofs.Ytgggngcgcpmkbaa
set_option linter.unusedVariables false
set_option maxRecDepth 2000
set_option linter.unusedSimpArgs false
open Go.RowKit
attribute [local go_sem] setCell_twice setCell_pair

theorem infoFix : (Try.prog.info? 34).map (fun i => (i.zero, i.size, i.bytes)) = some (some (.int .i64 0), 1, 8) := by kernel_rfl

theorem ownF_below {w w' : World} {base : Nat} {e : TypeId} {v : Value} {n : Nat} {xs : List Value} (h : w.ownsRow base e 1 v n xs) (hb : Below w.heap.size w w') : w'.ownsRow base e 1 v n xs := by
  refine ⟨h.1, ?_⟩
  rcases h.2 with hn | ⟨g, cap, cur, rfl, hbase, hg, rest⟩
  · exact .inl hn
  · refine .inr ⟨g, cap, cur, rfl, hbase, ?_, rest⟩
    rw [hb.block g (Array.getElem?_eq_some_iff.1 hg).1]; exact hg
theorem ownF_three {w : World} {base : Nat} {v : Value} {a b c : Int} (h : w.ownsRow base 34 1 v 3 [.int .i64 a, .int .i64 b, .int .i64 c]) :
    ∃ g cap, v = .slice (some ⟨g, 0, none⟩) 3 cap ∧ base ≤ g ∧ g < w.heap.size ∧ 3 ≤ cap ∧ w.cell? ⟨g, 0, none⟩ = some (.int .i64 a) ∧ w.cell? ⟨g, 1, none⟩ = some (.int .i64 b) ∧ w.cell? ⟨g, 2, none⟩ = some (.int .i64 c) := by
  rcases h.2 with ⟨_, hn⟩ | ⟨g, cap, cur, rfl, hb, hg, hc, hm, hs, ht⟩
  · exact absurd hn (by simp)
  · exact ⟨g, cap, rfl, hb, (Array.getElem?_eq_some_iff.1 hg).1, hc, (h.cellAt 0 (by omega)).trans (by simp), (h.cellAt 1 (by omega)).trans (by simp), (h.cellAt 2 (by omega)).trans (by simp)⟩
theorem grownF_keeps {w5 w6 : World} {o : Obj} {base : Nat} {e : TypeId} {v : Value} {n : Nat} {xs : List Value} (hown : w5.ownsRow base e 1 v n xs) (hg : (w5.alloc o).grownBy w6 v.ownBlock) {t : Nat} (ht : t < base) (ht5 : t < w5.heap.size) :
    (∀ i, w6.cell? ⟨t, i, none⟩ = w5.cell? ⟨t, i, none⟩) ∧ ∀ i, w6.frozen? ⟨t, i, none⟩ = w5.frozen? ⟨t, i, none⟩ := by
  have hne : some t ≠ v.ownBlock := fun h => by have := (hown.lt t h.symm).1; omega
  have e : w6.heap[t]? = w5.heap[t]? := by rw [hg.block t (by simp; omega) hne, show (w5.alloc o).heap[t]? = w5.heap[t]? from by show (w5.heap.push o)[t]? = _; rw [Array.getElem?_push_lt ht5, Array.getElem?_eq_getElem ht5]]
  exact ⟨fun i => World.cell?_of_block (w := w5) e, fun i => World.frozen?_of_block (w := w5) e⟩
theorem ownF_form {w : World} {base : Nat} {e : TypeId} {v : Value} {n : Nat} {xs : List Value} (h : w.ownsRow base e 1 v n xs) : ∃ p k c, v = .slice p k c := by
  rcases h.2 with ⟨rfl, _⟩ | ⟨g, cap, cur, rfl, _⟩
  · exact ⟨_, _, _, rfl⟩
  · exact ⟨_, _, _, rfl⟩

/-- what a round of the loop makes of the part p: f -/
def RoundOf (root p f : Int) : Prop := ∃ m q r Q : Int, 0 ≤ q ∧ q ≤ 9223372036854775808 ∧ 0 ≤ r ∧ (p < 0 ∧ 0 < r ∧ Q = q + 1 ∨ p < 0 ∧ r = 0 ∧ Q = q ∨ ¬ p < 0 ∧ Q = q) ∧
  (∀ w, Calls Try.prog 74 #[.int .i64 p] w fun e w' => e = .returned (.int .u64 m) ∧ w = w') ∧
  (∀ w, Calls Try.prog 75 #[.int .u64 m, .int .u64 0, .int .u64 root] w fun e w' => e = .returned (.tuple #[.int .u64 q, .int .u64 r]) ∧ ∃ n, w' = w.drewN n) ∧
  (∀ w, Calls Try.prog 125 #[.int .u64 Q, .bool (decide (p < 0)), .bool false] w fun e w' => e = .returned (.int .i64 f) ∧ w = w')

theorem VecAt.moved {b : Nat} {x y z : Int} {W W' : World} (h : VecAt b x y z W) (k : (∀ i, W'.cell? ⟨b, i, none⟩ = W.cell? ⟨b, i, none⟩) ∧ ∀ i, W'.frozen? ⟨b, i, none⟩ = W.frozen? ⟨b, i, none⟩) (hl : b < W'.heap.size) : VecAt b x y z W' :=
  ⟨hl, (k.1 0).trans h.c0, (k.1 1).trans h.c1, (k.1 2).trans h.c2, (k.2 0).trans h.f0, (k.2 1).trans h.f1, (k.2 2).trans h.f2⟩

theorem pick3 (root px py pz X Y Z : Int) (k : Nat) (hk : k < 3) (B : Nat) (W : World) (rX : RoundOf root px X) (rY : RoundOf root py Y) (rZ : RoundOf root pz Z)
    (s0 : W.cell? ⟨B, 0, none⟩ = some (.int .i64 px)) (s1 : W.cell? ⟨B, 1, none⟩ = some (.int .i64 py)) (s2 : W.cell? ⟨B, 2, none⟩ = some (.int .i64 pz)) :
    ∃ p f, RoundOf root p f ∧ W.cell? ⟨B, k, none⟩ = some (.int .i64 p) ∧ Hid ([X, Y, Z].take (k + 1) = [X, Y, Z].take k ++ [f]) :=
  match k, hk with
  | 0, _ => ⟨px, X, rX, s0, rfl⟩
  | 1, _ => ⟨py, Y, rY, s1, rfl⟩
  | 2, _ => ⟨pz, Z, rZ, s2, rfl⟩

end Go.Proofs.Ytgggngcgcpmkbaa
