/- A round of the state: numbers; chacha.round. -/
import Derived.Test.YtbhdlpndmbhaiaaCG
import Derived.LoopN
import Derived.LoopTactic
namespace Go.Proofs.Ytbhdlpndmbhaiaa
set_option linter.unusedVariables false
set_option maxRecDepth 2000
set_option linter.unusedSimpArgs false
open Go.RowKit
/-- the k-th index of the i-th group -/
def grp (k i : Nat) : Nat := 4 * k + (i + k * (i / 4)) % 4
def GL : List Value := [.int .i64 0, .int .i64 4, .int .i64 8, .int .i64 12, .int .i64 1, .int .i64 5, .int .i64 9, .int .i64 13, .int .i64 2, .int .i64 6, .int .i64 10, .int .i64 14, .int .i64 3, .int .i64 7, .int .i64 11, .int .i64 15, .int .i64 0, .int .i64 5, .int .i64 10, .int .i64 15, .int .i64 1, .int .i64 6, .int .i64 11, .int .i64 12, .int .i64 2, .int .i64 7, .int .i64 8, .int .i64 13, .int .i64 3, .int .i64 4, .int .i64 9, .int .i64 14]
def qAt (s : Nat → Int) (a b c d : Nat) : Nat → Int :=
  at1 (at1 (at1 (at1 s a (quarterF ⟨s a, s b, s c, s d⟩).a) b (quarterF ⟨s a, s b, s c, s d⟩).b) c (quarterF ⟨s a, s b, s c, s d⟩).c) d (quarterF ⟨s a, s b, s c, s d⟩).d
def inS (s : Nat → Int) : Prop := ∀ i, i < 16 → in32 (s i)
theorem in_at1 {s : Nat → Int} {i : Nat} {v : Int} (h : inS s) (hv : in32 v) : inS (at1 s i v) := by
  intro j hj
  unfold at1
  split
  · exact hv
  · exact h j hj
theorem in_qAt {s : Nat → Int} {a b c d : Nat} (h : inS s) (ha : a < 16) (hb : b < 16) (hc : c < 16) (hd : d < 16) : inS (qAt s a b c d) := by
  have hq := in_quarterF (s := ⟨s a, s b, s c, s d⟩) ⟨h a ha, h b hb, h c hc, h d hd⟩
  exact in_at1 (in_at1 (in_at1 (in_at1 h hq.1) hq.2.1) hq.2.2.1) hq.2.2.2
def partR (s : Nat → Int) : Nat → Nat → Int
  | 0 => s
  | i + 1 => qAt (partR s i) (grp 0 i) (grp 1 i) (grp 2 i) (grp 3 i)
theorem grp_lt (k i : Nat) (hk : k < 4) : grp k i < 16 := by unfold grp; omega
theorem in_partR {s : Nat → Int} (h : inS s) : ∀ i, inS (partR s i)
  | 0 => h
  | i + 1 => in_qAt (in_partR h i) (grp_lt 0 i (by omega)) (grp_lt 1 i (by omega)) (grp_lt 2 i (by omega)) (grp_lt 3 i (by omega))
def roundF (s : Nat → Int) : Nat → Int := partR s 8
def iterR (s : Nat → Int) : Nat → Nat → Int
  | 0 => s
  | t + 1 => roundF (iterR s t)
theorem in_iterR {s : Nat → Int} (h : inS s) : ∀ t, inS (iterR s t)
  | 0 => h
  | t + 1 => in_partR (in_iterR h t) 8
end Go.Proofs.Ytbhdlpndmbhaiaa
