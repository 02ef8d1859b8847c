/- chacha.State, and the document's. -/
import Derived.Test.YtbhdlpndmbhaiaaCE
import Derived.LoopN
import Derived.LoopTactic
namespace Go.Proofs.Ytbhdlpndmbhaiaa
set_option linter.unusedVariables false
set_option maxRecDepth 2000
set_option linter.unusedSimpArgs false
open Go.RowKit
def stF (kf : Nat → Int) (c : Int) (nf : Nat → Int) (j : Nat) : Int :=
  if j = 0 then 1634760805 else if j = 1 then 857760878 else if j = 2 then 2036477234 else if j = 3 then 1797285236
  else if j < 12 then word kf (4 * (j - 4)) else if j = 12 then c else word nf (4 * (j - 13))
theorem own_has4 {K N o : Nat} {f : Nat → Int} {W : World} (h : Own K (nums .u8 f N) W) (ho : o + 4 ≤ N) : Has K o [.int .u8 (f o), .int .u8 (f (o + 1)), .int .u8 (f (o + 2)), .int .u8 (f (o + 3))] W where
  lt := h.lt
  cell := fun j v hv => by
    match j, hv with
    | 0, hv => exact h.at o v ((nums_at _ _ (by omega)).trans hv)
    | 1, hv => exact h.at (o + 1) v ((nums_at _ _ (by omega)).trans hv)
    | 2, hv => exact h.at (o + 2) v ((nums_at _ _ (by omega)).trans hv)
    | 3, hv => exact h.at (o + 3) v ((nums_at _ _ (by omega)).trans hv)
    | j + 4, hv => cases hv

end Go.Proofs.Ytbhdlpndmbhaiaa
