/-
  NARROWER THAN 'FOR EVERY INPUT', by the rows' own cells (each row's printed sentence says how): BundleSeals: laid · BundleOpens: laid · BundleBack: laid · BundleJust: laid · BundleParts: laid · BundleCut: laid.
  DERIVED. THE GIVEN ROWS OF THIS SEAT. 6 by the template 'for every input the law returns true; each argument reads behind the call as it read before'; 0 by the template 'total and deterministic' (their statements: YtbilamnnneddmaaGreatDoorTotals.lean).
  GIVEN WITH THE SEED: the statements are not yours to turn. If you find one false, say at which input.
  Laid BY PROGRAM, IN A SANDBOX (cutbox-rows.mjs): the forced cells as the released guide's own fill.sh prints them over the translation 5abaea0824a27b77… (all of the seat's roots in one cut). By AI agents, Wed Nov 11 2026. No macro, syntax, notation, axiom, sorry.
-/
import Derived.Test.YtbilamnnneddmaaGreatDoorChecked
import GoSem.Claim
import GoSem.ClaimJoined
import GoSem.ClaimMapViews
import Derived.JoinedTies
import Derived.KernelRfl
namespace Go.Proofs.YtbilamnnneddmaaGreatDoor
/- THE CELL 'sum', in the pinned program and in every row, IS THE sha256 OF THE DUMP (.gsa) THAT YtbilamnnneddmaaGreatDoorProg.lean LOADS. Nothing in Lean hashes anything: it is a label: what it is worth is what the hold of that sum in a sandbox is worth. -/
noncomputable def Tryz.pinned : Pinned := { name := "ytbilamnnneddmaagreatdoor", sum := "5abaea0824a27b7739a07ce3ff030b1f6c9d70c7f58e667e8b3580920aebfc19", checked := Tryz.checked }
namespace Rows
def none {H : Type} : Left H := { results := [], args := [] }

/- WHAT THE LISTED PACKAGE-LEVEL VARIABLES READ AS WHEN THE CALL BEGINS. Each datum BY PROGRAM (the guide's laid-datum.mjs) off the statement by which the dump's own 'gosem.cut.vars' lays the variable. In a bare row this is a premise. The card (YtbilamnnneddmaaGreatDoorCards.lean) ties it to the program's text. -/
def laid_umbra_chacha_groups {H : Type} : DataW H := .agg [.agg [.lit (.int .i64 0), .lit (.int .i64 4), .lit (.int .i64 8), .lit (.int .i64 12)], .agg [.lit (.int .i64 1), .lit (.int .i64 5), .lit (.int .i64 9), .lit (.int .i64 13)], .agg [.lit (.int .i64 2), .lit (.int .i64 6), .lit (.int .i64 10), .lit (.int .i64 14)], .agg [.lit (.int .i64 3), .lit (.int .i64 7), .lit (.int .i64 11), .lit (.int .i64 15)], .agg [.lit (.int .i64 0), .lit (.int .i64 5), .lit (.int .i64 10), .lit (.int .i64 15)], .agg [.lit (.int .i64 1), .lit (.int .i64 6), .lit (.int .i64 11), .lit (.int .i64 12)], .agg [.lit (.int .i64 2), .lit (.int .i64 7), .lit (.int .i64 8), .lit (.int .i64 13)], .agg [.lit (.int .i64 3), .lit (.int .i64 4), .lit (.int .i64 9), .lit (.int .i64 14)]]
def laid_umbra_manifest_caps {H : Type} : DataW H := .agg [.lit (.int .i64 0), .lit (.int .i64 2048), .lit (.int .i64 1024), .lit (.int .i64 64), .lit (.int .i64 64)]

/-- 'umbralaw16.BundleSeals': WHATEVER THE INPUT: true; the input reads as it did. -/
def bundleSealsSpec : ChangeSpec := { name := "bundleSeals", fn := fun _ => fun
  | [d1, d2, d3] => { results := [.lit (.bool true)], args := [d1, d2, d3] }
  | _ => none }
def bundleSealsRow : OpenClaim := { program := "ytbilamnnneddmaagreatdoor", sum := "5abaea0824a27b7739a07ce3ff030b1f6c9d70c7f58e667e8b3580920aebfc19", func := "umbra/umbralaw16.BundleSeals", spec := "bundleSeals", inPlace := ["math/bits.Add64"], unfollowed := true, recurses := true, named := ["umbra/manifest.caps", "umbra/chacha.groups"], apart := false, laid := [("umbra/chacha.groups", laid_umbra_chacha_groups), ("umbra/manifest.caps", laid_umbra_manifest_caps)] }
def BundleSealsSaid : Prop := bundleSealsRow.holds Tryz.pinned (OpenSpec.ofChange bundleSealsSpec)

/-- ITS FALSE NEIGHBOUR: 'it returns false'. Refute it at one input. -/
def bundleSealsWrong : ChangeSpec := { name := "bundleSeals", fn := fun _ => fun
  | [d1, d2, d3] => { results := [.lit (.bool false)], args := [d1, d2, d3] }
  | _ => none }
def BundleSealsWrongFalsely : Prop := bundleSealsRow.holds Tryz.pinned (OpenSpec.ofChange bundleSealsWrong)

/-- 'umbralaw16.BundleOpens': WHATEVER THE INPUT: true; the input reads as it did. -/
def bundleOpensSpec : ChangeSpec := { name := "bundleOpens", fn := fun _ => fun
  | [d1, d2] => { results := [.lit (.bool true)], args := [d1, d2] }
  | _ => none }
def bundleOpensRow : OpenClaim := { program := "ytbilamnnneddmaagreatdoor", sum := "5abaea0824a27b7739a07ce3ff030b1f6c9d70c7f58e667e8b3580920aebfc19", func := "umbra/umbralaw16.BundleOpens", spec := "bundleOpens", inPlace := ["math/bits.Add64"], unfollowed := true, recurses := true, named := ["umbra/chacha.groups", "umbra/manifest.caps"], apart := false, laid := [("umbra/chacha.groups", laid_umbra_chacha_groups), ("umbra/manifest.caps", laid_umbra_manifest_caps)] }
def BundleOpensSaid : Prop := bundleOpensRow.holds Tryz.pinned (OpenSpec.ofChange bundleOpensSpec)

/-- ITS FALSE NEIGHBOUR: 'it returns false'. Refute it at one input. -/
def bundleOpensWrong : ChangeSpec := { name := "bundleOpens", fn := fun _ => fun
  | [d1, d2] => { results := [.lit (.bool false)], args := [d1, d2] }
  | _ => none }
def BundleOpensWrongFalsely : Prop := bundleOpensRow.holds Tryz.pinned (OpenSpec.ofChange bundleOpensWrong)

/-- 'umbralaw16.BundleBack': WHATEVER THE INPUT: true; the input reads as it did. -/
def bundleBackSpec : ChangeSpec := { name := "bundleBack", fn := fun _ => fun
  | [d1, d2] => { results := [.lit (.bool true)], args := [d1, d2] }
  | _ => none }
def bundleBackRow : OpenClaim := { program := "ytbilamnnneddmaagreatdoor", sum := "5abaea0824a27b7739a07ce3ff030b1f6c9d70c7f58e667e8b3580920aebfc19", func := "umbra/umbralaw16.BundleBack", spec := "bundleBack", inPlace := ["math/bits.Add64"], unfollowed := true, recurses := true, named := ["umbra/manifest.caps", "umbra/chacha.groups"], apart := false, laid := [("umbra/chacha.groups", laid_umbra_chacha_groups), ("umbra/manifest.caps", laid_umbra_manifest_caps)] }
def BundleBackSaid : Prop := bundleBackRow.holds Tryz.pinned (OpenSpec.ofChange bundleBackSpec)

/-- ITS FALSE NEIGHBOUR: 'it returns false'. Refute it at one input. -/
def bundleBackWrong : ChangeSpec := { name := "bundleBack", fn := fun _ => fun
  | [d1, d2] => { results := [.lit (.bool false)], args := [d1, d2] }
  | _ => none }
def BundleBackWrongFalsely : Prop := bundleBackRow.holds Tryz.pinned (OpenSpec.ofChange bundleBackWrong)

/-- 'umbralaw16.BundleJust': WHATEVER THE INPUT: true; the input reads as it did. -/
def bundleJustSpec : ChangeSpec := { name := "bundleJust", fn := fun _ => fun
  | [d1, d2] => { results := [.lit (.bool true)], args := [d1, d2] }
  | _ => none }
def bundleJustRow : OpenClaim := { program := "ytbilamnnneddmaagreatdoor", sum := "5abaea0824a27b7739a07ce3ff030b1f6c9d70c7f58e667e8b3580920aebfc19", func := "umbra/umbralaw16.BundleJust", spec := "bundleJust", inPlace := ["math/bits.Add64"], unfollowed := true, recurses := true, named := ["umbra/chacha.groups", "umbra/manifest.caps"], apart := false, laid := [("umbra/chacha.groups", laid_umbra_chacha_groups), ("umbra/manifest.caps", laid_umbra_manifest_caps)] }
def BundleJustSaid : Prop := bundleJustRow.holds Tryz.pinned (OpenSpec.ofChange bundleJustSpec)

/-- ITS FALSE NEIGHBOUR: 'it returns false'. Refute it at one input. -/
def bundleJustWrong : ChangeSpec := { name := "bundleJust", fn := fun _ => fun
  | [d1, d2] => { results := [.lit (.bool false)], args := [d1, d2] }
  | _ => none }
def BundleJustWrongFalsely : Prop := bundleJustRow.holds Tryz.pinned (OpenSpec.ofChange bundleJustWrong)

/-- 'umbralaw16.BundleParts': WHATEVER THE INPUT: true; the input reads as it did. -/
def bundlePartsSpec : ChangeSpec := { name := "bundleParts", fn := fun _ => fun
  | [d1, d2] => { results := [.lit (.bool true)], args := [d1, d2] }
  | _ => none }
def bundlePartsRow : OpenClaim := { program := "ytbilamnnneddmaagreatdoor", sum := "5abaea0824a27b7739a07ce3ff030b1f6c9d70c7f58e667e8b3580920aebfc19", func := "umbra/umbralaw16.BundleParts", spec := "bundleParts", inPlace := ["math/bits.Add64"], unfollowed := true, recurses := true, named := ["umbra/manifest.caps", "umbra/chacha.groups"], apart := false, laid := [("umbra/chacha.groups", laid_umbra_chacha_groups), ("umbra/manifest.caps", laid_umbra_manifest_caps)] }
def BundlePartsSaid : Prop := bundlePartsRow.holds Tryz.pinned (OpenSpec.ofChange bundlePartsSpec)

/-- ITS FALSE NEIGHBOUR: 'it returns false'. Refute it at one input. -/
def bundlePartsWrong : ChangeSpec := { name := "bundleParts", fn := fun _ => fun
  | [d1, d2] => { results := [.lit (.bool false)], args := [d1, d2] }
  | _ => none }
def BundlePartsWrongFalsely : Prop := bundlePartsRow.holds Tryz.pinned (OpenSpec.ofChange bundlePartsWrong)

/-- 'umbralaw16.BundleCut': WHATEVER THE INPUT: true; the input reads as it did. -/
def bundleCutSpec : ChangeSpec := { name := "bundleCut", fn := fun _ => fun
  | [d1, d2, d3] => { results := [.lit (.bool true)], args := [d1, d2, d3] }
  | _ => none }
def bundleCutRow : OpenClaim := { program := "ytbilamnnneddmaagreatdoor", sum := "5abaea0824a27b7739a07ce3ff030b1f6c9d70c7f58e667e8b3580920aebfc19", func := "umbra/umbralaw16.BundleCut", spec := "bundleCut", inPlace := ["math/bits.Add64"], unfollowed := true, recurses := true, named := ["umbra/manifest.caps", "umbra/chacha.groups"], apart := false, laid := [("umbra/chacha.groups", laid_umbra_chacha_groups), ("umbra/manifest.caps", laid_umbra_manifest_caps)] }
def BundleCutSaid : Prop := bundleCutRow.holds Tryz.pinned (OpenSpec.ofChange bundleCutSpec)

/-- ITS FALSE NEIGHBOUR: 'it returns false'. Refute it at one input. -/
def bundleCutWrong : ChangeSpec := { name := "bundleCut", fn := fun _ => fun
  | [d1, d2, d3] => { results := [.lit (.bool false)], args := [d1, d2, d3] }
  | _ => none }
def BundleCutWrongFalsely : Prop := bundleCutRow.holds Tryz.pinned (OpenSpec.ofChange bundleCutWrong)

/- THE SECOND FORM. 'bulk': how many values and letters a reading holds, each counted each time it is reached (what is shared counts as often as it is met; a slice's spare places count too). A statement '..UptoSaid' is the law's where the arguments, and the package variables that the reading takes, are together of bulk at most 1048576: NARROWER than '..Said'. Prove '..Said' where nothing that the law and all that it calls make is longer than what came in: it says more and counts as full. Else prove '..UptoSaid'. A law counts once. -/
mutual
def uptoBulk {H : Type} : DataW H → Nat
  | .lit (.string bytes) => bytes.length + 1
  | .lit _ => 1
  | .nil => 1
  | .ptr d => uptoBulk d + 1
  | .slice elems spare => uptoBulkAll elems + uptoBulkAll spare + 1
  | .agg parts => uptoBulkAll parts + 1
  | .iface _ d => uptoBulk d + 1
  | .map entries => uptoBulkEntries entries + 1
  | .held _ => 1
def uptoBulkAll {H : Type} : List (DataW H) → Nat
  | [] => 0
  | d :: r => uptoBulk d + uptoBulkAll r
def uptoBulkEntries {H : Type} : List (Lit × DataW H) → Nat
  | [] => 0
  | x :: r => uptoBulkEntry x + uptoBulkEntries r
def uptoBulkEntry {H : Type} : Lit × DataW H → Nat
  | (.string bytes, d) => bytes.length + uptoBulk d + 1
  | (_, d) => uptoBulk d + 1
 end
def uptoSmall : (H : Type) → List (DataW H) → Bool := fun _ ds => decide (uptoBulkAll ds ≤ 1048576)
def OpenSpec.upto (s : _root_.Go.ChangeSpec) : _root_.Go.OpenSpec := { _root_.Go.OpenSpec.ofChange s with cond := some uptoSmall }

/-- 'umbralaw16.BundleSeals', WHERE WHAT IT READS IS OF BULK AT MOST 1048576: true; the input reads as it did. -/
def bundleSealsUptoRow : OpenClaim := { program := "ytbilamnnneddmaagreatdoor", sum := "5abaea0824a27b7739a07ce3ff030b1f6c9d70c7f58e667e8b3580920aebfc19", func := "umbra/umbralaw16.BundleSeals", spec := "bundleSeals", inPlace := ["math/bits.Add64"], unfollowed := true, recurses := true, named := ["umbra/manifest.caps", "umbra/chacha.groups"], apart := false, laid := [("umbra/chacha.groups", laid_umbra_chacha_groups), ("umbra/manifest.caps", laid_umbra_manifest_caps)], narrowed := true }
def BundleSealsUptoSaid : Prop := bundleSealsUptoRow.holds Tryz.pinned (OpenSpec.upto bundleSealsSpec)

/-- 'umbralaw16.BundleOpens', WHERE WHAT IT READS IS OF BULK AT MOST 1048576: true; the input reads as it did. -/
def bundleOpensUptoRow : OpenClaim := { program := "ytbilamnnneddmaagreatdoor", sum := "5abaea0824a27b7739a07ce3ff030b1f6c9d70c7f58e667e8b3580920aebfc19", func := "umbra/umbralaw16.BundleOpens", spec := "bundleOpens", inPlace := ["math/bits.Add64"], unfollowed := true, recurses := true, named := ["umbra/chacha.groups", "umbra/manifest.caps"], apart := false, laid := [("umbra/chacha.groups", laid_umbra_chacha_groups), ("umbra/manifest.caps", laid_umbra_manifest_caps)], narrowed := true }
def BundleOpensUptoSaid : Prop := bundleOpensUptoRow.holds Tryz.pinned (OpenSpec.upto bundleOpensSpec)

/-- 'umbralaw16.BundleBack', WHERE WHAT IT READS IS OF BULK AT MOST 1048576: true; the input reads as it did. -/
def bundleBackUptoRow : OpenClaim := { program := "ytbilamnnneddmaagreatdoor", sum := "5abaea0824a27b7739a07ce3ff030b1f6c9d70c7f58e667e8b3580920aebfc19", func := "umbra/umbralaw16.BundleBack", spec := "bundleBack", inPlace := ["math/bits.Add64"], unfollowed := true, recurses := true, named := ["umbra/manifest.caps", "umbra/chacha.groups"], apart := false, laid := [("umbra/chacha.groups", laid_umbra_chacha_groups), ("umbra/manifest.caps", laid_umbra_manifest_caps)], narrowed := true }
def BundleBackUptoSaid : Prop := bundleBackUptoRow.holds Tryz.pinned (OpenSpec.upto bundleBackSpec)

/-- 'umbralaw16.BundleJust', WHERE WHAT IT READS IS OF BULK AT MOST 1048576: true; the input reads as it did. -/
def bundleJustUptoRow : OpenClaim := { program := "ytbilamnnneddmaagreatdoor", sum := "5abaea0824a27b7739a07ce3ff030b1f6c9d70c7f58e667e8b3580920aebfc19", func := "umbra/umbralaw16.BundleJust", spec := "bundleJust", inPlace := ["math/bits.Add64"], unfollowed := true, recurses := true, named := ["umbra/chacha.groups", "umbra/manifest.caps"], apart := false, laid := [("umbra/chacha.groups", laid_umbra_chacha_groups), ("umbra/manifest.caps", laid_umbra_manifest_caps)], narrowed := true }
def BundleJustUptoSaid : Prop := bundleJustUptoRow.holds Tryz.pinned (OpenSpec.upto bundleJustSpec)

/-- 'umbralaw16.BundleParts', WHERE WHAT IT READS IS OF BULK AT MOST 1048576: true; the input reads as it did. -/
def bundlePartsUptoRow : OpenClaim := { program := "ytbilamnnneddmaagreatdoor", sum := "5abaea0824a27b7739a07ce3ff030b1f6c9d70c7f58e667e8b3580920aebfc19", func := "umbra/umbralaw16.BundleParts", spec := "bundleParts", inPlace := ["math/bits.Add64"], unfollowed := true, recurses := true, named := ["umbra/manifest.caps", "umbra/chacha.groups"], apart := false, laid := [("umbra/chacha.groups", laid_umbra_chacha_groups), ("umbra/manifest.caps", laid_umbra_manifest_caps)], narrowed := true }
def BundlePartsUptoSaid : Prop := bundlePartsUptoRow.holds Tryz.pinned (OpenSpec.upto bundlePartsSpec)

/-- 'umbralaw16.BundleCut', WHERE WHAT IT READS IS OF BULK AT MOST 1048576: true; the input reads as it did. -/
def bundleCutUptoRow : OpenClaim := { program := "ytbilamnnneddmaagreatdoor", sum := "5abaea0824a27b7739a07ce3ff030b1f6c9d70c7f58e667e8b3580920aebfc19", func := "umbra/umbralaw16.BundleCut", spec := "bundleCut", inPlace := ["math/bits.Add64"], unfollowed := true, recurses := true, named := ["umbra/manifest.caps", "umbra/chacha.groups"], apart := false, laid := [("umbra/chacha.groups", laid_umbra_chacha_groups), ("umbra/manifest.caps", laid_umbra_manifest_caps)], narrowed := true }
def BundleCutUptoSaid : Prop := bundleCutUptoRow.holds Tryz.pinned (OpenSpec.upto bundleCutSpec)

end Rows
end Go.Proofs.YtbilamnnneddmaaGreatDoor
