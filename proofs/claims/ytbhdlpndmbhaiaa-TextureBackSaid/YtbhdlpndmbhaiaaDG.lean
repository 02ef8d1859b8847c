/- codec: the chapter's example. -/
import Derived.Test.YtbhdlpndmbhaiaaDD
import Derived.Test.YtbhdlpndmbhaiaaCT
import Derived.Lib.Hide
import Derived.Deep.Onto
namespace Go.Proofs.Ytbhdlpndmbhaiaa
set_option linter.unusedVariables false
set_option maxRecDepth 2000
set_option linter.unusedSimpArgs false
open Go.RowKit
theorem byt_eq {w : World} {q : Option Addr} {n : Nat} {f g : Nat → Int} (h : Byt w q n f) (e : ∀ j, j < n → f j = g j) : Byt w q n g := by
  rcases h with h | ⟨b, off, h1, h2⟩
  · exact .inl h
  · exact .inr ⟨b, off, h1, by rw [← nums_congr .u8 e]; exact h2⟩
theorem nm_new {w : World} {k : IntKind} {n : Nat} {f : Nat → Int} {T : TypeId} {cs : Array Value} (h : cs.toList = nums k f n) : Nm (w.alloc (.cells cs T)) k (some ⟨w.heap.size, 0, none⟩) n f :=
  .inr ⟨w.heap.size, 0, rfl, by rw [← h]; exact (Own.newAt rfl).has⟩
theorem byt_new {w : World} {n : Nat} {f : Nat → Int} {T : TypeId} {cs : Array Value} (h : cs.toList = nums .u8 f n) : Byt (w.alloc (.cells cs T)) (some ⟨w.heap.size, 0, none⟩) n f :=
  .inr ⟨w.heap.size, 0, rfl, by rw [← h]; exact (Own.newAt rfl).has⟩
def exA (j : Nat) : Int := [(2 : Int), 1, 1, 0].getD j 0
def exN (j : Nat) : Int := [(258 : Int), 1].getD j 0

end Go.Proofs.Ytbhdlpndmbhaiaa
