/-
  NARROWER THAN 'FOR EVERY INPUT', by the rows' own cells (each row's printed sentence says how): AssetChecks: laid · AssetEncodes: laid · AssetDecodes: laid · AssetSame: laid · AssetBack: laid.
  DERIVED. THE GIVEN ROWS OF THIS SEAT. 5 by the template 'for every input the law returns true; each argument reads behind the call as it read before'; 0 by the template 'total and deterministic' (their statements: YtokfhhngnpbdkaaDoorTotals.lean).
  GIVEN WITH THE SEED: the statements are not yours to turn. If you find one false, say at which input.
  Laid BY PROGRAM, IN A SANDBOX (cutbox-rows.mjs): the forced cells as the released guide's own fill.sh prints them over the translation f4c412c9c25e8b15… (all of the seat's roots in one cut). By AI agents, Wed Nov 11 2026. No macro, syntax, notation, axiom, sorry.
-/
import Derived.Test.YtokfhhngnpbdkaaDoorChecked
import GoSem.Claim
import GoSem.ClaimJoined
import GoSem.ClaimMapViews
import Derived.JoinedTies
import Derived.KernelRfl
namespace Go.Proofs.YtokfhhngnpbdkaaDoor
/- THE CELL 'sum', in the pinned program and in every row, IS THE sha256 OF THE DUMP (.gsa) THAT YtokfhhngnpbdkaaDoorProg.lean LOADS. Nothing in Lean hashes anything: it is a label: what it is worth is what the hold of that sum in a sandbox is worth. -/
noncomputable def Tryd.pinned : Pinned := { name := "ytokfhhngnpbdkaadoor", sum := "f4c412c9c25e8b15d84082bfc3d9d4766bfec01fa0cef6398e6e3f7d62b36712", checked := Tryd.checked }
namespace Rows
def none {H : Type} : Left H := { results := [], args := [] }

/- WHAT THE LISTED PACKAGE-LEVEL VARIABLES READ AS WHEN THE CALL BEGINS. Each datum BY PROGRAM (the guide's laid-datum.mjs) off the statement by which the dump's own 'gosem.cut.vars' lays the variable. In a bare row this is a premise. The card (YtokfhhngnpbdkaaDoorCards.lean) ties it to the program's text. -/
def laid_umbra_manifest_caps {H : Type} : DataW H := .agg [.lit (.int .i64 0), .lit (.int .i64 2048), .lit (.int .i64 1024), .lit (.int .i64 64), .lit (.int .i64 64)]

/-- 'umbralaw15.AssetChecks': WHATEVER THE INPUT: true; the input reads as it did. -/
def assetChecksSpec : ChangeSpec := { name := "assetChecks", fn := fun _ => fun
  | [d] => { results := [.lit (.bool true)], args := [d] }
  | _ => none }
def assetChecksRow : OpenClaim := { program := "ytokfhhngnpbdkaadoor", sum := "f4c412c9c25e8b15d84082bfc3d9d4766bfec01fa0cef6398e6e3f7d62b36712", func := "umbra/umbralaw15.AssetChecks", spec := "assetChecks", unfollowed := true, recurses := true, named := ["umbra/manifest.caps"], apart := false, laid := [("umbra/manifest.caps", laid_umbra_manifest_caps)] }
def AssetChecksSaid : Prop := assetChecksRow.holds Tryd.pinned (OpenSpec.ofChange assetChecksSpec)

/-- ITS FALSE NEIGHBOUR: 'it returns false'. Refute it at one input. -/
def assetChecksWrong : ChangeSpec := { name := "assetChecks", fn := fun _ => fun
  | [d] => { results := [.lit (.bool false)], args := [d] }
  | _ => none }
def AssetChecksWrongFalsely : Prop := assetChecksRow.holds Tryd.pinned (OpenSpec.ofChange assetChecksWrong)

/-- 'umbralaw15.AssetEncodes': WHATEVER THE INPUT: true; the input reads as it did. -/
def assetEncodesSpec : ChangeSpec := { name := "assetEncodes", fn := fun _ => fun
  | [d] => { results := [.lit (.bool true)], args := [d] }
  | _ => none }
def assetEncodesRow : OpenClaim := { program := "ytokfhhngnpbdkaadoor", sum := "f4c412c9c25e8b15d84082bfc3d9d4766bfec01fa0cef6398e6e3f7d62b36712", func := "umbra/umbralaw15.AssetEncodes", spec := "assetEncodes", unfollowed := true, recurses := true, named := ["umbra/manifest.caps"], apart := false, laid := [("umbra/manifest.caps", laid_umbra_manifest_caps)] }
def AssetEncodesSaid : Prop := assetEncodesRow.holds Tryd.pinned (OpenSpec.ofChange assetEncodesSpec)

/-- ITS FALSE NEIGHBOUR: 'it returns false'. Refute it at one input. -/
def assetEncodesWrong : ChangeSpec := { name := "assetEncodes", fn := fun _ => fun
  | [d] => { results := [.lit (.bool false)], args := [d] }
  | _ => none }
def AssetEncodesWrongFalsely : Prop := assetEncodesRow.holds Tryd.pinned (OpenSpec.ofChange assetEncodesWrong)

/-- 'umbralaw15.AssetDecodes': WHATEVER THE INPUT: true; the input reads as it did. -/
def assetDecodesSpec : ChangeSpec := { name := "assetDecodes", fn := fun _ => fun
  | [d1, d2] => { results := [.lit (.bool true)], args := [d1, d2] }
  | _ => none }
def assetDecodesRow : OpenClaim := { program := "ytokfhhngnpbdkaadoor", sum := "f4c412c9c25e8b15d84082bfc3d9d4766bfec01fa0cef6398e6e3f7d62b36712", func := "umbra/umbralaw15.AssetDecodes", spec := "assetDecodes", unfollowed := true, recurses := true, named := ["umbra/manifest.caps"], apart := false, laid := [("umbra/manifest.caps", laid_umbra_manifest_caps)] }
def AssetDecodesSaid : Prop := assetDecodesRow.holds Tryd.pinned (OpenSpec.ofChange assetDecodesSpec)

/-- ITS FALSE NEIGHBOUR: 'it returns false'. Refute it at one input. -/
def assetDecodesWrong : ChangeSpec := { name := "assetDecodes", fn := fun _ => fun
  | [d1, d2] => { results := [.lit (.bool false)], args := [d1, d2] }
  | _ => none }
def AssetDecodesWrongFalsely : Prop := assetDecodesRow.holds Tryd.pinned (OpenSpec.ofChange assetDecodesWrong)

/-- 'umbralaw15.AssetSame': WHATEVER THE INPUT: true; the input reads as it did. -/
def assetSameSpec : ChangeSpec := { name := "assetSame", fn := fun _ => fun
  | [d1, d2] => { results := [.lit (.bool true)], args := [d1, d2] }
  | _ => none }
def assetSameRow : OpenClaim := { program := "ytokfhhngnpbdkaadoor", sum := "f4c412c9c25e8b15d84082bfc3d9d4766bfec01fa0cef6398e6e3f7d62b36712", func := "umbra/umbralaw15.AssetSame", spec := "assetSame", unfollowed := true, recurses := true, named := ["umbra/manifest.caps"], apart := false, laid := [("umbra/manifest.caps", laid_umbra_manifest_caps)] }
def AssetSameSaid : Prop := assetSameRow.holds Tryd.pinned (OpenSpec.ofChange assetSameSpec)

/-- ITS FALSE NEIGHBOUR: 'it returns false'. Refute it at one input. -/
def assetSameWrong : ChangeSpec := { name := "assetSame", fn := fun _ => fun
  | [d1, d2] => { results := [.lit (.bool false)], args := [d1, d2] }
  | _ => none }
def AssetSameWrongFalsely : Prop := assetSameRow.holds Tryd.pinned (OpenSpec.ofChange assetSameWrong)

/-- 'umbralaw15.AssetBack': WHATEVER THE INPUT: true; the input reads as it did. -/
def assetBackSpec : ChangeSpec := { name := "assetBack", fn := fun _ => fun
  | [d1, d2, d3] => { results := [.lit (.bool true)], args := [d1, d2, d3] }
  | _ => none }
def assetBackRow : OpenClaim := { program := "ytokfhhngnpbdkaadoor", sum := "f4c412c9c25e8b15d84082bfc3d9d4766bfec01fa0cef6398e6e3f7d62b36712", func := "umbra/umbralaw15.AssetBack", spec := "assetBack", unfollowed := true, recurses := true, named := ["umbra/manifest.caps"], apart := false, laid := [("umbra/manifest.caps", laid_umbra_manifest_caps)] }
def AssetBackSaid : Prop := assetBackRow.holds Tryd.pinned (OpenSpec.ofChange assetBackSpec)

/-- ITS FALSE NEIGHBOUR: 'it returns false'. Refute it at one input. -/
def assetBackWrong : ChangeSpec := { name := "assetBack", fn := fun _ => fun
  | [d1, d2, d3] => { results := [.lit (.bool false)], args := [d1, d2, d3] }
  | _ => none }
def AssetBackWrongFalsely : Prop := assetBackRow.holds Tryd.pinned (OpenSpec.ofChange assetBackWrong)

/- THE SECOND FORM. 'bulk': how many values and letters a reading holds, each counted each time it is reached (what is shared counts as often as it is met; a slice's spare places count too). A statement '..UptoSaid' is the law's where the arguments, and the package variables that the reading takes, are together of bulk at most 1048576: NARROWER than '..Said'. Prove '..Said' where nothing that the law and all that it calls make is longer than what came in: it says more and counts as full. Else prove '..UptoSaid'. A law counts once. -/
mutual
def uptoBulk {H : Type} : DataW H → Nat
  | .lit (.string bytes) => bytes.length + 1
  | .lit _ => 1
  | .nil => 1
  | .ptr d => uptoBulk d + 1
  | .slice elems spare => uptoBulkAll elems + uptoBulkAll spare + 1
  | .agg parts => uptoBulkAll parts + 1
  | .iface _ d => uptoBulk d + 1
  | .map entries => uptoBulkEntries entries + 1
  | .held _ => 1
def uptoBulkAll {H : Type} : List (DataW H) → Nat
  | [] => 0
  | d :: r => uptoBulk d + uptoBulkAll r
def uptoBulkEntries {H : Type} : List (Lit × DataW H) → Nat
  | [] => 0
  | x :: r => uptoBulkEntry x + uptoBulkEntries r
def uptoBulkEntry {H : Type} : Lit × DataW H → Nat
  | (.string bytes, d) => bytes.length + uptoBulk d + 1
  | (_, d) => uptoBulk d + 1
 end
def uptoSmall : (H : Type) → List (DataW H) → Bool := fun _ ds => decide (uptoBulkAll ds ≤ 1048576)
def OpenSpec.upto (s : _root_.Go.ChangeSpec) : _root_.Go.OpenSpec := { _root_.Go.OpenSpec.ofChange s with cond := some uptoSmall }

/-- 'umbralaw15.AssetChecks', WHERE WHAT IT READS IS OF BULK AT MOST 1048576: true; the input reads as it did. -/
def assetChecksUptoRow : OpenClaim := { program := "ytokfhhngnpbdkaadoor", sum := "f4c412c9c25e8b15d84082bfc3d9d4766bfec01fa0cef6398e6e3f7d62b36712", func := "umbra/umbralaw15.AssetChecks", spec := "assetChecks", unfollowed := true, recurses := true, named := ["umbra/manifest.caps"], apart := false, laid := [("umbra/manifest.caps", laid_umbra_manifest_caps)], narrowed := true }
def AssetChecksUptoSaid : Prop := assetChecksUptoRow.holds Tryd.pinned (OpenSpec.upto assetChecksSpec)

/-- 'umbralaw15.AssetEncodes', WHERE WHAT IT READS IS OF BULK AT MOST 1048576: true; the input reads as it did. -/
def assetEncodesUptoRow : OpenClaim := { program := "ytokfhhngnpbdkaadoor", sum := "f4c412c9c25e8b15d84082bfc3d9d4766bfec01fa0cef6398e6e3f7d62b36712", func := "umbra/umbralaw15.AssetEncodes", spec := "assetEncodes", unfollowed := true, recurses := true, named := ["umbra/manifest.caps"], apart := false, laid := [("umbra/manifest.caps", laid_umbra_manifest_caps)], narrowed := true }
def AssetEncodesUptoSaid : Prop := assetEncodesUptoRow.holds Tryd.pinned (OpenSpec.upto assetEncodesSpec)

/-- 'umbralaw15.AssetDecodes', WHERE WHAT IT READS IS OF BULK AT MOST 1048576: true; the input reads as it did. -/
def assetDecodesUptoRow : OpenClaim := { program := "ytokfhhngnpbdkaadoor", sum := "f4c412c9c25e8b15d84082bfc3d9d4766bfec01fa0cef6398e6e3f7d62b36712", func := "umbra/umbralaw15.AssetDecodes", spec := "assetDecodes", unfollowed := true, recurses := true, named := ["umbra/manifest.caps"], apart := false, laid := [("umbra/manifest.caps", laid_umbra_manifest_caps)], narrowed := true }
def AssetDecodesUptoSaid : Prop := assetDecodesUptoRow.holds Tryd.pinned (OpenSpec.upto assetDecodesSpec)

/-- 'umbralaw15.AssetSame', WHERE WHAT IT READS IS OF BULK AT MOST 1048576: true; the input reads as it did. -/
def assetSameUptoRow : OpenClaim := { program := "ytokfhhngnpbdkaadoor", sum := "f4c412c9c25e8b15d84082bfc3d9d4766bfec01fa0cef6398e6e3f7d62b36712", func := "umbra/umbralaw15.AssetSame", spec := "assetSame", unfollowed := true, recurses := true, named := ["umbra/manifest.caps"], apart := false, laid := [("umbra/manifest.caps", laid_umbra_manifest_caps)], narrowed := true }
def AssetSameUptoSaid : Prop := assetSameUptoRow.holds Tryd.pinned (OpenSpec.upto assetSameSpec)

/-- 'umbralaw15.AssetBack', WHERE WHAT IT READS IS OF BULK AT MOST 1048576: true; the input reads as it did. -/
def assetBackUptoRow : OpenClaim := { program := "ytokfhhngnpbdkaadoor", sum := "f4c412c9c25e8b15d84082bfc3d9d4766bfec01fa0cef6398e6e3f7d62b36712", func := "umbra/umbralaw15.AssetBack", spec := "assetBack", unfollowed := true, recurses := true, named := ["umbra/manifest.caps"], apart := false, laid := [("umbra/manifest.caps", laid_umbra_manifest_caps)], narrowed := true }
def AssetBackUptoSaid : Prop := assetBackUptoRow.holds Tryd.pinned (OpenSpec.upto assetBackSpec)

end Rows
end Go.Proofs.YtokfhhngnpbdkaaDoor
