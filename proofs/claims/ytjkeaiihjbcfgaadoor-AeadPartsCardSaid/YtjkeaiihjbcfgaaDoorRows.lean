/-
  NARROWER THAN 'FOR EVERY INPUT', by the rows' own cells (each row's printed sentence says how): AeadMacs: laid · AeadSeals: laid · AeadOpens: laid · AeadBack: laid · AeadJust: laid · AeadParts: laid.
  DERIVED. THE GIVEN ROWS OF THIS SEAT. 6 by the template 'for every input the law returns true; each argument reads behind the call as it read before'; 0 by the template 'total and deterministic' (their statements: YtjkeaiihjbcfgaaDoorTotals.lean).
  GIVEN WITH THE SEED: the statements are not yours to turn. If you find one false, say at which input.
  Laid BY PROGRAM, IN A SANDBOX (cutbox-rows.mjs): the forced cells as the released guide's own fill.sh prints them over the translation 365a10917fae29d4… (all of the seat's roots in one cut). By AI agents, Wed Nov 11 2026. No macro, syntax, notation, axiom, sorry.
-/
import Derived.Test.YtjkeaiihjbcfgaaDoorChecked
import GoSem.Claim
import GoSem.ClaimJoined
import GoSem.ClaimMapViews
import Derived.JoinedTies
import Derived.KernelRfl
namespace Go.Proofs.YtjkeaiihjbcfgaaDoor
/- THE CELL 'sum', in the pinned program and in every row, IS THE sha256 OF THE DUMP (.gsa) THAT YtjkeaiihjbcfgaaDoorProg.lean LOADS. Nothing in Lean hashes anything: it is a label: what it is worth is what the hold of that sum in a sandbox is worth. -/
noncomputable def Tryd.pinned : Pinned := { name := "ytjkeaiihjbcfgaadoor", sum := "365a10917fae29d407274f2bb10ac19880f00cbe8ae135fe9d7d35ea641992ee", checked := Tryd.checked }
namespace Rows
def none {H : Type} : Left H := { results := [], args := [] }

/- WHAT THE LISTED PACKAGE-LEVEL VARIABLES READ AS WHEN THE CALL BEGINS. Each datum BY PROGRAM (the guide's laid-datum.mjs) off the statement by which the dump's own 'gosem.cut.vars' lays the variable. In a bare row this is a premise. The card (YtjkeaiihjbcfgaaDoorCards.lean) ties it to the program's text. -/
def laid_umbra_chacha_groups {H : Type} : DataW H := .agg [.agg [.lit (.int .i64 0), .lit (.int .i64 4), .lit (.int .i64 8), .lit (.int .i64 12)], .agg [.lit (.int .i64 1), .lit (.int .i64 5), .lit (.int .i64 9), .lit (.int .i64 13)], .agg [.lit (.int .i64 2), .lit (.int .i64 6), .lit (.int .i64 10), .lit (.int .i64 14)], .agg [.lit (.int .i64 3), .lit (.int .i64 7), .lit (.int .i64 11), .lit (.int .i64 15)], .agg [.lit (.int .i64 0), .lit (.int .i64 5), .lit (.int .i64 10), .lit (.int .i64 15)], .agg [.lit (.int .i64 1), .lit (.int .i64 6), .lit (.int .i64 11), .lit (.int .i64 12)], .agg [.lit (.int .i64 2), .lit (.int .i64 7), .lit (.int .i64 8), .lit (.int .i64 13)], .agg [.lit (.int .i64 3), .lit (.int .i64 4), .lit (.int .i64 9), .lit (.int .i64 14)]]

/-- 'umbralaw08.AeadMacs': WHATEVER THE INPUT: true; the input reads as it did. -/
def aeadMacsSpec : ChangeSpec := { name := "aeadMacs", fn := fun _ => fun
  | [d1, d2, d3] => { results := [.lit (.bool true)], args := [d1, d2, d3] }
  | _ => none }
def aeadMacsRow : OpenClaim := { program := "ytjkeaiihjbcfgaadoor", sum := "365a10917fae29d407274f2bb10ac19880f00cbe8ae135fe9d7d35ea641992ee", func := "umbra/umbralaw08.AeadMacs", spec := "aeadMacs", inPlace := ["math/bits.Add64"], unfollowed := true, recurses := true, named := ["umbra/chacha.groups"], apart := false, laid := [("umbra/chacha.groups", laid_umbra_chacha_groups)] }
def AeadMacsSaid : Prop := aeadMacsRow.holds Tryd.pinned (OpenSpec.ofChange aeadMacsSpec)

/-- ITS FALSE NEIGHBOUR: 'it returns false'. Refute it at one input. -/
def aeadMacsWrong : ChangeSpec := { name := "aeadMacs", fn := fun _ => fun
  | [d1, d2, d3] => { results := [.lit (.bool false)], args := [d1, d2, d3] }
  | _ => none }
def AeadMacsWrongFalsely : Prop := aeadMacsRow.holds Tryd.pinned (OpenSpec.ofChange aeadMacsWrong)

/-- 'umbralaw08.AeadSeals': WHATEVER THE INPUT: true; the input reads as it did. -/
def aeadSealsSpec : ChangeSpec := { name := "aeadSeals", fn := fun _ => fun
  | [d1, d2, d3] => { results := [.lit (.bool true)], args := [d1, d2, d3] }
  | _ => none }
def aeadSealsRow : OpenClaim := { program := "ytjkeaiihjbcfgaadoor", sum := "365a10917fae29d407274f2bb10ac19880f00cbe8ae135fe9d7d35ea641992ee", func := "umbra/umbralaw08.AeadSeals", spec := "aeadSeals", inPlace := ["math/bits.Add64"], unfollowed := true, recurses := true, named := ["umbra/chacha.groups"], apart := false, laid := [("umbra/chacha.groups", laid_umbra_chacha_groups)] }
def AeadSealsSaid : Prop := aeadSealsRow.holds Tryd.pinned (OpenSpec.ofChange aeadSealsSpec)

/-- ITS FALSE NEIGHBOUR: 'it returns false'. Refute it at one input. -/
def aeadSealsWrong : ChangeSpec := { name := "aeadSeals", fn := fun _ => fun
  | [d1, d2, d3] => { results := [.lit (.bool false)], args := [d1, d2, d3] }
  | _ => none }
def AeadSealsWrongFalsely : Prop := aeadSealsRow.holds Tryd.pinned (OpenSpec.ofChange aeadSealsWrong)

/-- 'umbralaw08.AeadOpens': WHATEVER THE INPUT: true; the input reads as it did. -/
def aeadOpensSpec : ChangeSpec := { name := "aeadOpens", fn := fun _ => fun
  | [d1, d2, d3] => { results := [.lit (.bool true)], args := [d1, d2, d3] }
  | _ => none }
def aeadOpensRow : OpenClaim := { program := "ytjkeaiihjbcfgaadoor", sum := "365a10917fae29d407274f2bb10ac19880f00cbe8ae135fe9d7d35ea641992ee", func := "umbra/umbralaw08.AeadOpens", spec := "aeadOpens", inPlace := ["math/bits.Add64"], unfollowed := true, recurses := true, named := ["umbra/chacha.groups"], apart := false, laid := [("umbra/chacha.groups", laid_umbra_chacha_groups)] }
def AeadOpensSaid : Prop := aeadOpensRow.holds Tryd.pinned (OpenSpec.ofChange aeadOpensSpec)

/-- ITS FALSE NEIGHBOUR: 'it returns false'. Refute it at one input. -/
def aeadOpensWrong : ChangeSpec := { name := "aeadOpens", fn := fun _ => fun
  | [d1, d2, d3] => { results := [.lit (.bool false)], args := [d1, d2, d3] }
  | _ => none }
def AeadOpensWrongFalsely : Prop := aeadOpensRow.holds Tryd.pinned (OpenSpec.ofChange aeadOpensWrong)

/-- 'umbralaw08.AeadBack': WHATEVER THE INPUT: true; the input reads as it did. -/
def aeadBackSpec : ChangeSpec := { name := "aeadBack", fn := fun _ => fun
  | [d1, d2, d3] => { results := [.lit (.bool true)], args := [d1, d2, d3] }
  | _ => none }
def aeadBackRow : OpenClaim := { program := "ytjkeaiihjbcfgaadoor", sum := "365a10917fae29d407274f2bb10ac19880f00cbe8ae135fe9d7d35ea641992ee", func := "umbra/umbralaw08.AeadBack", spec := "aeadBack", inPlace := ["math/bits.Add64"], unfollowed := true, recurses := true, named := ["umbra/chacha.groups"], apart := false, laid := [("umbra/chacha.groups", laid_umbra_chacha_groups)] }
def AeadBackSaid : Prop := aeadBackRow.holds Tryd.pinned (OpenSpec.ofChange aeadBackSpec)

/-- ITS FALSE NEIGHBOUR: 'it returns false'. Refute it at one input. -/
def aeadBackWrong : ChangeSpec := { name := "aeadBack", fn := fun _ => fun
  | [d1, d2, d3] => { results := [.lit (.bool false)], args := [d1, d2, d3] }
  | _ => none }
def AeadBackWrongFalsely : Prop := aeadBackRow.holds Tryd.pinned (OpenSpec.ofChange aeadBackWrong)

/-- 'umbralaw08.AeadJust': WHATEVER THE INPUT: true; the input reads as it did. -/
def aeadJustSpec : ChangeSpec := { name := "aeadJust", fn := fun _ => fun
  | [d1, d2, d3] => { results := [.lit (.bool true)], args := [d1, d2, d3] }
  | _ => none }
def aeadJustRow : OpenClaim := { program := "ytjkeaiihjbcfgaadoor", sum := "365a10917fae29d407274f2bb10ac19880f00cbe8ae135fe9d7d35ea641992ee", func := "umbra/umbralaw08.AeadJust", spec := "aeadJust", inPlace := ["math/bits.Add64"], unfollowed := true, recurses := true, named := ["umbra/chacha.groups"], apart := false, laid := [("umbra/chacha.groups", laid_umbra_chacha_groups)] }
def AeadJustSaid : Prop := aeadJustRow.holds Tryd.pinned (OpenSpec.ofChange aeadJustSpec)

/-- ITS FALSE NEIGHBOUR: 'it returns false'. Refute it at one input. -/
def aeadJustWrong : ChangeSpec := { name := "aeadJust", fn := fun _ => fun
  | [d1, d2, d3] => { results := [.lit (.bool false)], args := [d1, d2, d3] }
  | _ => none }
def AeadJustWrongFalsely : Prop := aeadJustRow.holds Tryd.pinned (OpenSpec.ofChange aeadJustWrong)

/-- 'umbralaw08.AeadParts': WHATEVER THE INPUT: true; the input reads as it did. -/
def aeadPartsSpec : ChangeSpec := { name := "aeadParts", fn := fun _ => fun
  | [d1, d2, d3] => { results := [.lit (.bool true)], args := [d1, d2, d3] }
  | _ => none }
def aeadPartsRow : OpenClaim := { program := "ytjkeaiihjbcfgaadoor", sum := "365a10917fae29d407274f2bb10ac19880f00cbe8ae135fe9d7d35ea641992ee", func := "umbra/umbralaw08.AeadParts", spec := "aeadParts", inPlace := ["math/bits.Add64"], unfollowed := true, recurses := true, named := ["umbra/chacha.groups"], apart := false, laid := [("umbra/chacha.groups", laid_umbra_chacha_groups)] }
def AeadPartsSaid : Prop := aeadPartsRow.holds Tryd.pinned (OpenSpec.ofChange aeadPartsSpec)

/-- ITS FALSE NEIGHBOUR: 'it returns false'. Refute it at one input. -/
def aeadPartsWrong : ChangeSpec := { name := "aeadParts", fn := fun _ => fun
  | [d1, d2, d3] => { results := [.lit (.bool false)], args := [d1, d2, d3] }
  | _ => none }
def AeadPartsWrongFalsely : Prop := aeadPartsRow.holds Tryd.pinned (OpenSpec.ofChange aeadPartsWrong)

/- THE SECOND FORM. 'bulk': how many values and letters a reading holds, each counted each time it is reached (what is shared counts as often as it is met; a slice's spare places count too). A statement '..UptoSaid' is the law's where the arguments, and the package variables that the reading takes, are together of bulk at most 1048576: NARROWER than '..Said'. Prove '..Said' where nothing that the law and all that it calls make is longer than what came in: it says more and counts as full. Else prove '..UptoSaid'. A law counts once. -/
mutual
def uptoBulk {H : Type} : DataW H → Nat
  | .lit (.string bytes) => bytes.length + 1
  | .lit _ => 1
  | .nil => 1
  | .ptr d => uptoBulk d + 1
  | .slice elems spare => uptoBulkAll elems + uptoBulkAll spare + 1
  | .agg parts => uptoBulkAll parts + 1
  | .iface _ d => uptoBulk d + 1
  | .map entries => uptoBulkEntries entries + 1
  | .held _ => 1
def uptoBulkAll {H : Type} : List (DataW H) → Nat
  | [] => 0
  | d :: r => uptoBulk d + uptoBulkAll r
def uptoBulkEntries {H : Type} : List (Lit × DataW H) → Nat
  | [] => 0
  | x :: r => uptoBulkEntry x + uptoBulkEntries r
def uptoBulkEntry {H : Type} : Lit × DataW H → Nat
  | (.string bytes, d) => bytes.length + uptoBulk d + 1
  | (_, d) => uptoBulk d + 1
 end
def uptoSmall : (H : Type) → List (DataW H) → Bool := fun _ ds => decide (uptoBulkAll ds ≤ 1048576)
def OpenSpec.upto (s : _root_.Go.ChangeSpec) : _root_.Go.OpenSpec := { _root_.Go.OpenSpec.ofChange s with cond := some uptoSmall }

/-- 'umbralaw08.AeadMacs', WHERE WHAT IT READS IS OF BULK AT MOST 1048576: true; the input reads as it did. -/
def aeadMacsUptoRow : OpenClaim := { program := "ytjkeaiihjbcfgaadoor", sum := "365a10917fae29d407274f2bb10ac19880f00cbe8ae135fe9d7d35ea641992ee", func := "umbra/umbralaw08.AeadMacs", spec := "aeadMacs", inPlace := ["math/bits.Add64"], unfollowed := true, recurses := true, named := ["umbra/chacha.groups"], apart := false, laid := [("umbra/chacha.groups", laid_umbra_chacha_groups)], narrowed := true }
def AeadMacsUptoSaid : Prop := aeadMacsUptoRow.holds Tryd.pinned (OpenSpec.upto aeadMacsSpec)

/-- 'umbralaw08.AeadSeals', WHERE WHAT IT READS IS OF BULK AT MOST 1048576: true; the input reads as it did. -/
def aeadSealsUptoRow : OpenClaim := { program := "ytjkeaiihjbcfgaadoor", sum := "365a10917fae29d407274f2bb10ac19880f00cbe8ae135fe9d7d35ea641992ee", func := "umbra/umbralaw08.AeadSeals", spec := "aeadSeals", inPlace := ["math/bits.Add64"], unfollowed := true, recurses := true, named := ["umbra/chacha.groups"], apart := false, laid := [("umbra/chacha.groups", laid_umbra_chacha_groups)], narrowed := true }
def AeadSealsUptoSaid : Prop := aeadSealsUptoRow.holds Tryd.pinned (OpenSpec.upto aeadSealsSpec)

/-- 'umbralaw08.AeadOpens', WHERE WHAT IT READS IS OF BULK AT MOST 1048576: true; the input reads as it did. -/
def aeadOpensUptoRow : OpenClaim := { program := "ytjkeaiihjbcfgaadoor", sum := "365a10917fae29d407274f2bb10ac19880f00cbe8ae135fe9d7d35ea641992ee", func := "umbra/umbralaw08.AeadOpens", spec := "aeadOpens", inPlace := ["math/bits.Add64"], unfollowed := true, recurses := true, named := ["umbra/chacha.groups"], apart := false, laid := [("umbra/chacha.groups", laid_umbra_chacha_groups)], narrowed := true }
def AeadOpensUptoSaid : Prop := aeadOpensUptoRow.holds Tryd.pinned (OpenSpec.upto aeadOpensSpec)

/-- 'umbralaw08.AeadBack', WHERE WHAT IT READS IS OF BULK AT MOST 1048576: true; the input reads as it did. -/
def aeadBackUptoRow : OpenClaim := { program := "ytjkeaiihjbcfgaadoor", sum := "365a10917fae29d407274f2bb10ac19880f00cbe8ae135fe9d7d35ea641992ee", func := "umbra/umbralaw08.AeadBack", spec := "aeadBack", inPlace := ["math/bits.Add64"], unfollowed := true, recurses := true, named := ["umbra/chacha.groups"], apart := false, laid := [("umbra/chacha.groups", laid_umbra_chacha_groups)], narrowed := true }
def AeadBackUptoSaid : Prop := aeadBackUptoRow.holds Tryd.pinned (OpenSpec.upto aeadBackSpec)

/-- 'umbralaw08.AeadJust', WHERE WHAT IT READS IS OF BULK AT MOST 1048576: true; the input reads as it did. -/
def aeadJustUptoRow : OpenClaim := { program := "ytjkeaiihjbcfgaadoor", sum := "365a10917fae29d407274f2bb10ac19880f00cbe8ae135fe9d7d35ea641992ee", func := "umbra/umbralaw08.AeadJust", spec := "aeadJust", inPlace := ["math/bits.Add64"], unfollowed := true, recurses := true, named := ["umbra/chacha.groups"], apart := false, laid := [("umbra/chacha.groups", laid_umbra_chacha_groups)], narrowed := true }
def AeadJustUptoSaid : Prop := aeadJustUptoRow.holds Tryd.pinned (OpenSpec.upto aeadJustSpec)

/-- 'umbralaw08.AeadParts', WHERE WHAT IT READS IS OF BULK AT MOST 1048576: true; the input reads as it did. -/
def aeadPartsUptoRow : OpenClaim := { program := "ytjkeaiihjbcfgaadoor", sum := "365a10917fae29d407274f2bb10ac19880f00cbe8ae135fe9d7d35ea641992ee", func := "umbra/umbralaw08.AeadParts", spec := "aeadParts", inPlace := ["math/bits.Add64"], unfollowed := true, recurses := true, named := ["umbra/chacha.groups"], apart := false, laid := [("umbra/chacha.groups", laid_umbra_chacha_groups)], narrowed := true }
def AeadPartsUptoSaid : Prop := aeadPartsUptoRow.holds Tryd.pinned (OpenSpec.upto aeadPartsSpec)

end Rows
end Go.Proofs.YtjkeaiihjbcfgaaDoor
