/-
  No cell of these rows narrows 'for every input' (looked for: loops, veiled, ifaces, maps, wideKeys, modest, calm, conditions, laid).
  DERIVED. THE GIVEN ROWS OF THIS SEAT. 12 by the template 'for every input the law returns true; each argument reads behind the call as it read before'; 0 by the template 'total and deterministic' (their statements: YtgggngcgcpmkbaaTotals.lean).
  GIVEN WITH THE SEED: the statements are not yours to turn. If you find one false, say at which input.
  Laid BY PROGRAM, IN A SANDBOX (cutbox-rows.mjs): the forced cells as the released guide's own fill.sh prints them over the translation 519c474f1e5f426d… (all of the seat's roots in one cut). By AI agents, Wed Nov 11 2026. No macro, syntax, notation, axiom, sorry.
-/
import Derived.Test.YtgggngcgcpmkbaaChecked
import GoSem.Claim
import GoSem.ClaimJoined
import GoSem.ClaimMapViews
import Derived.JoinedTies
import Derived.KernelRfl
namespace Go.Proofs.Ytgggngcgcpmkbaa
/- THE CELL 'sum', in the pinned program and in every row, IS THE sha256 OF THE DUMP (.gsa) THAT YtgggngcgcpmkbaaProg.lean LOADS. Nothing in Lean hashes anything: it is a label: what it is worth is what the hold of that sum in a sandbox is worth. -/
noncomputable def Try.pinned : Pinned := { name := "ytgggngcgcpmkbaa", sum := "519c474f1e5f426d8b68493555910357beba97ec516747882bb6c0969d53d3d1", checked := Try.checked }
namespace Rows
def none {H : Type} : Left H := { results := [], args := [] }

/-- 'umbralaw05.OctaDecodes': WHATEVER THE INPUT: true; the input reads as it did. -/
def octaDecodesSpec : ChangeSpec := { name := "octaDecodes", fn := fun _ => fun
  | [d] => { results := [.lit (.bool true)], args := [d] }
  | _ => none }
def octaDecodesRow : OpenClaim := { program := "ytgggngcgcpmkbaa", sum := "519c474f1e5f426d8b68493555910357beba97ec516747882bb6c0969d53d3d1", func := "umbra/umbralaw05.OctaDecodes", spec := "octaDecodes", inPlace := ["math/bits.Sub64", "math/bits.Add64"], unfollowed := true, recurses := true, named := ["math/bits.divideError", "math/bits.overflowError"], apart := false }
def OctaDecodesSaid : Prop := octaDecodesRow.holds Try.pinned (OpenSpec.ofChange octaDecodesSpec)

/-- ITS FALSE NEIGHBOUR: 'it returns false'. Refute it at one input. -/
def octaDecodesWrong : ChangeSpec := { name := "octaDecodes", fn := fun _ => fun
  | [d] => { results := [.lit (.bool false)], args := [d] }
  | _ => none }
def OctaDecodesWrongFalsely : Prop := octaDecodesRow.holds Try.pinned (OpenSpec.ofChange octaDecodesWrong)

/-- 'umbralaw05.OctaEncodes': WHATEVER THE INPUT: true; the input reads as it did. -/
def octaEncodesSpec : ChangeSpec := { name := "octaEncodes", fn := fun _ => fun
  | [d] => { results := [.lit (.bool true)], args := [d] }
  | _ => none }
def octaEncodesRow : OpenClaim := { program := "ytgggngcgcpmkbaa", sum := "519c474f1e5f426d8b68493555910357beba97ec516747882bb6c0969d53d3d1", func := "umbra/umbralaw05.OctaEncodes", spec := "octaEncodes", inPlace := ["math/bits.Sub64", "math/bits.Add64"], unfollowed := true, recurses := true, named := ["math/bits.divideError", "math/bits.overflowError"], apart := false }
def OctaEncodesSaid : Prop := octaEncodesRow.holds Try.pinned (OpenSpec.ofChange octaEncodesSpec)

/-- ITS FALSE NEIGHBOUR: 'it returns false'. Refute it at one input. -/
def octaEncodesWrong : ChangeSpec := { name := "octaEncodes", fn := fun _ => fun
  | [d] => { results := [.lit (.bool false)], args := [d] }
  | _ => none }
def OctaEncodesWrongFalsely : Prop := octaEncodesRow.holds Try.pinned (OpenSpec.ofChange octaEncodesWrong)

/-- 'umbralaw05.OctaQuants': WHATEVER THE INPUT: true; the input reads as it did. -/
def octaQuantsSpec : ChangeSpec := { name := "octaQuants", fn := fun _ => fun
  | [d1, d2, d3] => { results := [.lit (.bool true)], args := [d1, d2, d3] }
  | _ => none }
def octaQuantsRow : OpenClaim := { program := "ytgggngcgcpmkbaa", sum := "519c474f1e5f426d8b68493555910357beba97ec516747882bb6c0969d53d3d1", func := "umbra/umbralaw05.OctaQuants", spec := "octaQuants", inPlace := ["math/bits.Sub64", "math/bits.Add64"], unfollowed := true, recurses := true, named := ["math/bits.divideError", "math/bits.overflowError"], apart := false }
def OctaQuantsSaid : Prop := octaQuantsRow.holds Try.pinned (OpenSpec.ofChange octaQuantsSpec)

/-- ITS FALSE NEIGHBOUR: 'it returns false'. Refute it at one input. -/
def octaQuantsWrong : ChangeSpec := { name := "octaQuants", fn := fun _ => fun
  | [d1, d2, d3] => { results := [.lit (.bool false)], args := [d1, d2, d3] }
  | _ => none }
def OctaQuantsWrongFalsely : Prop := octaQuantsRow.holds Try.pinned (OpenSpec.ofChange octaQuantsWrong)

/-- 'umbralaw05.OctaBack': WHATEVER THE INPUT: true; the input reads as it did. -/
def octaBackSpec : ChangeSpec := { name := "octaBack", fn := fun _ => fun
  | [d] => { results := [.lit (.bool true)], args := [d] }
  | _ => none }
def octaBackRow : OpenClaim := { program := "ytgggngcgcpmkbaa", sum := "519c474f1e5f426d8b68493555910357beba97ec516747882bb6c0969d53d3d1", func := "umbra/umbralaw05.OctaBack", spec := "octaBack", inPlace := ["math/bits.Sub64", "math/bits.Add64"], unfollowed := true, recurses := true, named := ["math/bits.divideError", "math/bits.overflowError"], apart := false }
def OctaBackSaid : Prop := octaBackRow.holds Try.pinned (OpenSpec.ofChange octaBackSpec)

/-- ITS FALSE NEIGHBOUR: 'it returns false'. Refute it at one input. -/
def octaBackWrong : ChangeSpec := { name := "octaBack", fn := fun _ => fun
  | [d] => { results := [.lit (.bool false)], args := [d] }
  | _ => none }
def OctaBackWrongFalsely : Prop := octaBackRow.holds Try.pinned (OpenSpec.ofChange octaBackWrong)

/-- 'umbralaw05.OctaNear': WHATEVER THE INPUT: true; the input reads as it did. -/
def octaNearSpec : ChangeSpec := { name := "octaNear", fn := fun _ => fun
  | [d] => { results := [.lit (.bool true)], args := [d] }
  | _ => none }
def octaNearRow : OpenClaim := { program := "ytgggngcgcpmkbaa", sum := "519c474f1e5f426d8b68493555910357beba97ec516747882bb6c0969d53d3d1", func := "umbra/umbralaw05.OctaNear", spec := "octaNear", inPlace := ["math/bits.Sub64", "math/bits.Add64"], unfollowed := true, recurses := true, named := ["math/bits.divideError", "math/bits.overflowError"], apart := false }
def OctaNearSaid : Prop := octaNearRow.holds Try.pinned (OpenSpec.ofChange octaNearSpec)

/-- ITS FALSE NEIGHBOUR: 'it returns false'. Refute it at one input. -/
def octaNearWrong : ChangeSpec := { name := "octaNear", fn := fun _ => fun
  | [d] => { results := [.lit (.bool false)], args := [d] }
  | _ => none }
def OctaNearWrongFalsely : Prop := octaNearRow.holds Try.pinned (OpenSpec.ofChange octaNearWrong)

/-- 'umbralaw05.OctaLong': WHATEVER THE INPUT: true; the input reads as it did. -/
def octaLongSpec : ChangeSpec := { name := "octaLong", fn := fun _ => fun
  | [d1, d2] => { results := [.lit (.bool true)], args := [d1, d2] }
  | _ => none }
def octaLongRow : OpenClaim := { program := "ytgggngcgcpmkbaa", sum := "519c474f1e5f426d8b68493555910357beba97ec516747882bb6c0969d53d3d1", func := "umbra/umbralaw05.OctaLong", spec := "octaLong", inPlace := ["math/bits.Sub64", "math/bits.Add64"], unfollowed := true, recurses := true, named := ["math/bits.divideError", "math/bits.overflowError"], apart := false }
def OctaLongSaid : Prop := octaLongRow.holds Try.pinned (OpenSpec.ofChange octaLongSpec)

/-- ITS FALSE NEIGHBOUR: 'it returns false'. Refute it at one input. -/
def octaLongWrong : ChangeSpec := { name := "octaLong", fn := fun _ => fun
  | [d1, d2] => { results := [.lit (.bool false)], args := [d1, d2] }
  | _ => none }
def OctaLongWrongFalsely : Prop := octaLongRow.holds Try.pinned (OpenSpec.ofChange octaLongWrong)

/-- 'umbralaw01.WideMakes': WHATEVER THE INPUT: true; the input reads as it did. -/
def wideMakesSpec : ChangeSpec := { name := "wideMakes", fn := fun _ => fun
  | [d1, d2] => { results := [.lit (.bool true)], args := [d1, d2] }
  | _ => none }
def wideMakesRow : OpenClaim := { program := "ytgggngcgcpmkbaa", sum := "519c474f1e5f426d8b68493555910357beba97ec516747882bb6c0969d53d3d1", func := "umbra/umbralaw01.WideMakes", spec := "wideMakes", inPlace := ["math/bits.Sub64", "math/bits.Add64"], recurses := true, named := ["math/bits.divideError", "math/bits.overflowError"], apart := false }
def WideMakesSaid : Prop := wideMakesRow.holds Try.pinned (OpenSpec.ofChange wideMakesSpec)

/-- ITS FALSE NEIGHBOUR: 'it returns false'. Refute it at one input. -/
def wideMakesWrong : ChangeSpec := { name := "wideMakes", fn := fun _ => fun
  | [d1, d2] => { results := [.lit (.bool false)], args := [d1, d2] }
  | _ => none }
def WideMakesWrongFalsely : Prop := wideMakesRow.holds Try.pinned (OpenSpec.ofChange wideMakesWrong)

/-- 'umbralaw01.WideSums': WHATEVER THE INPUT: true; the input reads as it did. -/
def wideSumsSpec : ChangeSpec := { name := "wideSums", fn := fun _ => fun
  | [d1, d2] => { results := [.lit (.bool true)], args := [d1, d2] }
  | _ => none }
def wideSumsRow : OpenClaim := { program := "ytgggngcgcpmkbaa", sum := "519c474f1e5f426d8b68493555910357beba97ec516747882bb6c0969d53d3d1", func := "umbra/umbralaw01.WideSums", spec := "wideSums", inPlace := ["math/bits.Add64", "math/bits.Sub64"], recurses := true, named := ["math/bits.divideError", "math/bits.overflowError"], apart := false }
def WideSumsSaid : Prop := wideSumsRow.holds Try.pinned (OpenSpec.ofChange wideSumsSpec)

/-- ITS FALSE NEIGHBOUR: 'it returns false'. Refute it at one input. -/
def wideSumsWrong : ChangeSpec := { name := "wideSums", fn := fun _ => fun
  | [d1, d2] => { results := [.lit (.bool false)], args := [d1, d2] }
  | _ => none }
def WideSumsWrongFalsely : Prop := wideSumsRow.holds Try.pinned (OpenSpec.ofChange wideSumsWrong)

/-- 'umbralaw01.WideDivides': WHATEVER THE INPUT: true; the input reads as it did. -/
def wideDividesSpec : ChangeSpec := { name := "wideDivides", fn := fun _ => fun
  | [d1, d2, d3] => { results := [.lit (.bool true)], args := [d1, d2, d3] }
  | _ => none }
def wideDividesRow : OpenClaim := { program := "ytgggngcgcpmkbaa", sum := "519c474f1e5f426d8b68493555910357beba97ec516747882bb6c0969d53d3d1", func := "umbra/umbralaw01.WideDivides", spec := "wideDivides", inPlace := ["math/bits.Sub64", "math/bits.Add64"], recurses := true, named := ["math/bits.divideError", "math/bits.overflowError"], apart := false }
def WideDividesSaid : Prop := wideDividesRow.holds Try.pinned (OpenSpec.ofChange wideDividesSpec)

/-- ITS FALSE NEIGHBOUR: 'it returns false'. Refute it at one input. -/
def wideDividesWrong : ChangeSpec := { name := "wideDivides", fn := fun _ => fun
  | [d1, d2, d3] => { results := [.lit (.bool false)], args := [d1, d2, d3] }
  | _ => none }
def WideDividesWrongFalsely : Prop := wideDividesRow.holds Try.pinned (OpenSpec.ofChange wideDividesWrong)

/-- 'umbralaw04.AffineMakes': WHATEVER THE INPUT: true; the input reads as it did. -/
def affineMakesSpec : ChangeSpec := { name := "affineMakes", fn := fun _ => fun
  | [d1, d2, d3] => { results := [.lit (.bool true)], args := [d1, d2, d3] }
  | _ => none }
def affineMakesRow : OpenClaim := { program := "ytgggngcgcpmkbaa", sum := "519c474f1e5f426d8b68493555910357beba97ec516747882bb6c0969d53d3d1", func := "umbra/umbralaw04.AffineMakes", spec := "affineMakes", unfollowed := true, recurses := true, apart := false }
def AffineMakesSaid : Prop := affineMakesRow.holds Try.pinned (OpenSpec.ofChange affineMakesSpec)

/-- ITS FALSE NEIGHBOUR: 'it returns false'. Refute it at one input. -/
def affineMakesWrong : ChangeSpec := { name := "affineMakes", fn := fun _ => fun
  | [d1, d2, d3] => { results := [.lit (.bool false)], args := [d1, d2, d3] }
  | _ => none }
def AffineMakesWrongFalsely : Prop := affineMakesRow.holds Try.pinned (OpenSpec.ofChange affineMakesWrong)

/-- 'umbralaw04.AffineThen': WHATEVER THE INPUT: true; the input reads as it did. -/
def affineThenSpec : ChangeSpec := { name := "affineThen", fn := fun _ => fun
  | [d] => { results := [.lit (.bool true)], args := [d] }
  | _ => none }
def affineThenRow : OpenClaim := { program := "ytgggngcgcpmkbaa", sum := "519c474f1e5f426d8b68493555910357beba97ec516747882bb6c0969d53d3d1", func := "umbra/umbralaw04.AffineThen", spec := "affineThen", unfollowed := true, recurses := true, apart := false }
def AffineThenSaid : Prop := affineThenRow.holds Try.pinned (OpenSpec.ofChange affineThenSpec)

/-- ITS FALSE NEIGHBOUR: 'it returns false'. Refute it at one input. -/
def affineThenWrong : ChangeSpec := { name := "affineThen", fn := fun _ => fun
  | [d] => { results := [.lit (.bool false)], args := [d] }
  | _ => none }
def AffineThenWrongFalsely : Prop := affineThenRow.holds Try.pinned (OpenSpec.ofChange affineThenWrong)

/-- 'umbralaw04.AffineWhole': WHATEVER THE INPUT: true; the input reads as it did. -/
def affineWholeSpec : ChangeSpec := { name := "affineWhole", fn := fun _ => fun
  | [d1, d2, d3] => { results := [.lit (.bool true)], args := [d1, d2, d3] }
  | _ => none }
def affineWholeRow : OpenClaim := { program := "ytgggngcgcpmkbaa", sum := "519c474f1e5f426d8b68493555910357beba97ec516747882bb6c0969d53d3d1", func := "umbra/umbralaw04.AffineWhole", spec := "affineWhole", unfollowed := true, recurses := true, apart := false }
def AffineWholeSaid : Prop := affineWholeRow.holds Try.pinned (OpenSpec.ofChange affineWholeSpec)

/-- ITS FALSE NEIGHBOUR: 'it returns false'. Refute it at one input. -/
def affineWholeWrong : ChangeSpec := { name := "affineWhole", fn := fun _ => fun
  | [d1, d2, d3] => { results := [.lit (.bool false)], args := [d1, d2, d3] }
  | _ => none }
def AffineWholeWrongFalsely : Prop := affineWholeRow.holds Try.pinned (OpenSpec.ofChange affineWholeWrong)

/- THE SECOND FORM. 'bulk': how many values and letters a reading holds, each counted each time it is reached (what is shared counts as often as it is met; a slice's spare places count too). A statement '..UptoSaid' is the law's where the arguments, and the package variables that the reading takes, are together of bulk at most 1048576: NARROWER than '..Said'. Prove '..Said' where nothing that the law and all that it calls make is longer than what came in: it says more and counts as full. Else prove '..UptoSaid'. A law counts once. -/
mutual
def uptoBulk {H : Type} : DataW H → Nat
  | .lit (.string bytes) => bytes.length + 1
  | .lit _ => 1
  | .nil => 1
  | .ptr d => uptoBulk d + 1
  | .slice elems spare => uptoBulkAll elems + uptoBulkAll spare + 1
  | .agg parts => uptoBulkAll parts + 1
  | .iface _ d => uptoBulk d + 1
  | .map entries => uptoBulkEntries entries + 1
  | .held _ => 1
def uptoBulkAll {H : Type} : List (DataW H) → Nat
  | [] => 0
  | d :: r => uptoBulk d + uptoBulkAll r
def uptoBulkEntries {H : Type} : List (Lit × DataW H) → Nat
  | [] => 0
  | x :: r => uptoBulkEntry x + uptoBulkEntries r
def uptoBulkEntry {H : Type} : Lit × DataW H → Nat
  | (.string bytes, d) => bytes.length + uptoBulk d + 1
  | (_, d) => uptoBulk d + 1
 end
def uptoSmall : (H : Type) → List (DataW H) → Bool := fun _ ds => decide (uptoBulkAll ds ≤ 1048576)
def OpenSpec.upto (s : _root_.Go.ChangeSpec) : _root_.Go.OpenSpec := { _root_.Go.OpenSpec.ofChange s with cond := some uptoSmall }

/-- 'umbralaw05.OctaDecodes', WHERE WHAT IT READS IS OF BULK AT MOST 1048576: true; the input reads as it did. -/
def octaDecodesUptoRow : OpenClaim := { program := "ytgggngcgcpmkbaa", sum := "519c474f1e5f426d8b68493555910357beba97ec516747882bb6c0969d53d3d1", func := "umbra/umbralaw05.OctaDecodes", spec := "octaDecodes", inPlace := ["math/bits.Sub64", "math/bits.Add64"], unfollowed := true, recurses := true, named := ["math/bits.divideError", "math/bits.overflowError"], apart := false, narrowed := true }
def OctaDecodesUptoSaid : Prop := octaDecodesUptoRow.holds Try.pinned (OpenSpec.upto octaDecodesSpec)

/-- 'umbralaw05.OctaEncodes', WHERE WHAT IT READS IS OF BULK AT MOST 1048576: true; the input reads as it did. -/
def octaEncodesUptoRow : OpenClaim := { program := "ytgggngcgcpmkbaa", sum := "519c474f1e5f426d8b68493555910357beba97ec516747882bb6c0969d53d3d1", func := "umbra/umbralaw05.OctaEncodes", spec := "octaEncodes", inPlace := ["math/bits.Sub64", "math/bits.Add64"], unfollowed := true, recurses := true, named := ["math/bits.divideError", "math/bits.overflowError"], apart := false, narrowed := true }
def OctaEncodesUptoSaid : Prop := octaEncodesUptoRow.holds Try.pinned (OpenSpec.upto octaEncodesSpec)

/-- 'umbralaw05.OctaQuants', WHERE WHAT IT READS IS OF BULK AT MOST 1048576: true; the input reads as it did. -/
def octaQuantsUptoRow : OpenClaim := { program := "ytgggngcgcpmkbaa", sum := "519c474f1e5f426d8b68493555910357beba97ec516747882bb6c0969d53d3d1", func := "umbra/umbralaw05.OctaQuants", spec := "octaQuants", inPlace := ["math/bits.Sub64", "math/bits.Add64"], unfollowed := true, recurses := true, named := ["math/bits.divideError", "math/bits.overflowError"], apart := false, narrowed := true }
def OctaQuantsUptoSaid : Prop := octaQuantsUptoRow.holds Try.pinned (OpenSpec.upto octaQuantsSpec)

/-- 'umbralaw05.OctaBack', WHERE WHAT IT READS IS OF BULK AT MOST 1048576: true; the input reads as it did. -/
def octaBackUptoRow : OpenClaim := { program := "ytgggngcgcpmkbaa", sum := "519c474f1e5f426d8b68493555910357beba97ec516747882bb6c0969d53d3d1", func := "umbra/umbralaw05.OctaBack", spec := "octaBack", inPlace := ["math/bits.Sub64", "math/bits.Add64"], unfollowed := true, recurses := true, named := ["math/bits.divideError", "math/bits.overflowError"], apart := false, narrowed := true }
def OctaBackUptoSaid : Prop := octaBackUptoRow.holds Try.pinned (OpenSpec.upto octaBackSpec)

/-- 'umbralaw05.OctaNear', WHERE WHAT IT READS IS OF BULK AT MOST 1048576: true; the input reads as it did. -/
def octaNearUptoRow : OpenClaim := { program := "ytgggngcgcpmkbaa", sum := "519c474f1e5f426d8b68493555910357beba97ec516747882bb6c0969d53d3d1", func := "umbra/umbralaw05.OctaNear", spec := "octaNear", inPlace := ["math/bits.Sub64", "math/bits.Add64"], unfollowed := true, recurses := true, named := ["math/bits.divideError", "math/bits.overflowError"], apart := false, narrowed := true }
def OctaNearUptoSaid : Prop := octaNearUptoRow.holds Try.pinned (OpenSpec.upto octaNearSpec)

/-- 'umbralaw05.OctaLong', WHERE WHAT IT READS IS OF BULK AT MOST 1048576: true; the input reads as it did. -/
def octaLongUptoRow : OpenClaim := { program := "ytgggngcgcpmkbaa", sum := "519c474f1e5f426d8b68493555910357beba97ec516747882bb6c0969d53d3d1", func := "umbra/umbralaw05.OctaLong", spec := "octaLong", inPlace := ["math/bits.Sub64", "math/bits.Add64"], unfollowed := true, recurses := true, named := ["math/bits.divideError", "math/bits.overflowError"], apart := false, narrowed := true }
def OctaLongUptoSaid : Prop := octaLongUptoRow.holds Try.pinned (OpenSpec.upto octaLongSpec)

/-- 'umbralaw01.WideMakes', WHERE WHAT IT READS IS OF BULK AT MOST 1048576: true; the input reads as it did. -/
def wideMakesUptoRow : OpenClaim := { program := "ytgggngcgcpmkbaa", sum := "519c474f1e5f426d8b68493555910357beba97ec516747882bb6c0969d53d3d1", func := "umbra/umbralaw01.WideMakes", spec := "wideMakes", inPlace := ["math/bits.Sub64", "math/bits.Add64"], recurses := true, named := ["math/bits.divideError", "math/bits.overflowError"], apart := false, narrowed := true }
def WideMakesUptoSaid : Prop := wideMakesUptoRow.holds Try.pinned (OpenSpec.upto wideMakesSpec)

/-- 'umbralaw01.WideSums', WHERE WHAT IT READS IS OF BULK AT MOST 1048576: true; the input reads as it did. -/
def wideSumsUptoRow : OpenClaim := { program := "ytgggngcgcpmkbaa", sum := "519c474f1e5f426d8b68493555910357beba97ec516747882bb6c0969d53d3d1", func := "umbra/umbralaw01.WideSums", spec := "wideSums", inPlace := ["math/bits.Add64", "math/bits.Sub64"], recurses := true, named := ["math/bits.divideError", "math/bits.overflowError"], apart := false, narrowed := true }
def WideSumsUptoSaid : Prop := wideSumsUptoRow.holds Try.pinned (OpenSpec.upto wideSumsSpec)

/-- 'umbralaw01.WideDivides', WHERE WHAT IT READS IS OF BULK AT MOST 1048576: true; the input reads as it did. -/
def wideDividesUptoRow : OpenClaim := { program := "ytgggngcgcpmkbaa", sum := "519c474f1e5f426d8b68493555910357beba97ec516747882bb6c0969d53d3d1", func := "umbra/umbralaw01.WideDivides", spec := "wideDivides", inPlace := ["math/bits.Sub64", "math/bits.Add64"], recurses := true, named := ["math/bits.divideError", "math/bits.overflowError"], apart := false, narrowed := true }
def WideDividesUptoSaid : Prop := wideDividesUptoRow.holds Try.pinned (OpenSpec.upto wideDividesSpec)

/-- 'umbralaw04.AffineMakes', WHERE WHAT IT READS IS OF BULK AT MOST 1048576: true; the input reads as it did. -/
def affineMakesUptoRow : OpenClaim := { program := "ytgggngcgcpmkbaa", sum := "519c474f1e5f426d8b68493555910357beba97ec516747882bb6c0969d53d3d1", func := "umbra/umbralaw04.AffineMakes", spec := "affineMakes", unfollowed := true, recurses := true, apart := false, narrowed := true }
def AffineMakesUptoSaid : Prop := affineMakesUptoRow.holds Try.pinned (OpenSpec.upto affineMakesSpec)

/-- 'umbralaw04.AffineThen', WHERE WHAT IT READS IS OF BULK AT MOST 1048576: true; the input reads as it did. -/
def affineThenUptoRow : OpenClaim := { program := "ytgggngcgcpmkbaa", sum := "519c474f1e5f426d8b68493555910357beba97ec516747882bb6c0969d53d3d1", func := "umbra/umbralaw04.AffineThen", spec := "affineThen", unfollowed := true, recurses := true, apart := false, narrowed := true }
def AffineThenUptoSaid : Prop := affineThenUptoRow.holds Try.pinned (OpenSpec.upto affineThenSpec)

/-- 'umbralaw04.AffineWhole', WHERE WHAT IT READS IS OF BULK AT MOST 1048576: true; the input reads as it did. -/
def affineWholeUptoRow : OpenClaim := { program := "ytgggngcgcpmkbaa", sum := "519c474f1e5f426d8b68493555910357beba97ec516747882bb6c0969d53d3d1", func := "umbra/umbralaw04.AffineWhole", spec := "affineWhole", unfollowed := true, recurses := true, apart := false, narrowed := true }
def AffineWholeUptoSaid : Prop := affineWholeUptoRow.holds Try.pinned (OpenSpec.upto affineWholeSpec)

end Rows
end Go.Proofs.Ytgggngcgcpmkbaa
