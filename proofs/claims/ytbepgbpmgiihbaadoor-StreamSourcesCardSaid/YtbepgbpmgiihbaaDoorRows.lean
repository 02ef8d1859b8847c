/-
  NARROWER THAN 'FOR EVERY INPUT', by the rows' own cells (each row's printed sentence says how): StreamDraws: laid · StreamSources: laid · StreamBlock: laid.
  DERIVED. THE GIVEN ROWS OF THIS SEAT. 3 by the template 'for every input the law returns true; each argument reads behind the call as it read before'; 0 by the template 'total and deterministic' (their statements: YtbepgbpmgiihbaaDoorTotals.lean).
  GIVEN WITH THE SEED: the statements are not yours to turn. If you find one false, say at which input.
  Laid BY PROGRAM, IN A SANDBOX (cutbox-rows.mjs): the forced cells as the released guide's own fill.sh prints them over the translation 488f465caab9d82c… (all of the seat's roots in one cut). By AI agents, Wed Nov 11 2026. No macro, syntax, notation, axiom, sorry.
-/
import Derived.Test.YtbepgbpmgiihbaaDoorChecked
import GoSem.Claim
import GoSem.ClaimJoined
import GoSem.ClaimMapViews
import Derived.JoinedTies
import Derived.KernelRfl
namespace Go.Proofs.YtbepgbpmgiihbaaDoor
/- THE CELL 'sum', in the pinned program and in every row, IS THE sha256 OF THE DUMP (.gsa) THAT YtbepgbpmgiihbaaDoorProg.lean LOADS. Nothing in Lean hashes anything: it is a label: what it is worth is what the hold of that sum in a sandbox is worth. -/
noncomputable def Tryd.pinned : Pinned := { name := "ytbepgbpmgiihbaadoor", sum := "488f465caab9d82c4f17cd13a5bf9726a242fe54c100f2277b55e42764472acc", checked := Tryd.checked }
namespace Rows
def none {H : Type} : Left H := { results := [], args := [] }

/- WHAT THE LISTED PACKAGE-LEVEL VARIABLES READ AS WHEN THE CALL BEGINS. Each datum BY PROGRAM (the guide's laid-datum.mjs) off the statement by which the dump's own 'gosem.cut.vars' lays the variable. In a bare row this is a premise. The card (YtbepgbpmgiihbaaDoorCards.lean) ties it to the program's text. -/
def laid_umbra_chacha_groups {H : Type} : DataW H := .agg [.agg [.lit (.int .i64 0), .lit (.int .i64 4), .lit (.int .i64 8), .lit (.int .i64 12)], .agg [.lit (.int .i64 1), .lit (.int .i64 5), .lit (.int .i64 9), .lit (.int .i64 13)], .agg [.lit (.int .i64 2), .lit (.int .i64 6), .lit (.int .i64 10), .lit (.int .i64 14)], .agg [.lit (.int .i64 3), .lit (.int .i64 7), .lit (.int .i64 11), .lit (.int .i64 15)], .agg [.lit (.int .i64 0), .lit (.int .i64 5), .lit (.int .i64 10), .lit (.int .i64 15)], .agg [.lit (.int .i64 1), .lit (.int .i64 6), .lit (.int .i64 11), .lit (.int .i64 12)], .agg [.lit (.int .i64 2), .lit (.int .i64 7), .lit (.int .i64 8), .lit (.int .i64 13)], .agg [.lit (.int .i64 3), .lit (.int .i64 4), .lit (.int .i64 9), .lit (.int .i64 14)]]

/-- 'umbralaw10.StreamDraws': WHATEVER THE INPUT: true; the input reads as it did. -/
def streamDrawsSpec : ChangeSpec := { name := "streamDraws", fn := fun _ => fun
  | [d1, d2] => { results := [.lit (.bool true)], args := [d1, d2] }
  | _ => none }
def streamDrawsRow : OpenClaim := { program := "ytbepgbpmgiihbaadoor", sum := "488f465caab9d82c4f17cd13a5bf9726a242fe54c100f2277b55e42764472acc", func := "umbra/umbralaw10.StreamDraws", spec := "streamDraws", named := ["umbra/chacha.groups"], apart := false, laid := [("umbra/chacha.groups", laid_umbra_chacha_groups)] }
def StreamDrawsSaid : Prop := streamDrawsRow.holds Tryd.pinned (OpenSpec.ofChange streamDrawsSpec)

/-- ITS FALSE NEIGHBOUR: 'it returns false'. Refute it at one input. -/
def streamDrawsWrong : ChangeSpec := { name := "streamDraws", fn := fun _ => fun
  | [d1, d2] => { results := [.lit (.bool false)], args := [d1, d2] }
  | _ => none }
def StreamDrawsWrongFalsely : Prop := streamDrawsRow.holds Tryd.pinned (OpenSpec.ofChange streamDrawsWrong)

/-- 'umbralaw10.StreamSources': WHATEVER THE INPUT: true; the input reads as it did. -/
def streamSourcesSpec : ChangeSpec := { name := "streamSources", fn := fun _ => fun
  | [d1, d2, d3] => { results := [.lit (.bool true)], args := [d1, d2, d3] }
  | _ => none }
def streamSourcesRow : OpenClaim := { program := "ytbepgbpmgiihbaadoor", sum := "488f465caab9d82c4f17cd13a5bf9726a242fe54c100f2277b55e42764472acc", func := "umbra/umbralaw10.StreamSources", spec := "streamSources", named := ["umbra/chacha.groups"], apart := false, laid := [("umbra/chacha.groups", laid_umbra_chacha_groups)] }
def StreamSourcesSaid : Prop := streamSourcesRow.holds Tryd.pinned (OpenSpec.ofChange streamSourcesSpec)

/-- ITS FALSE NEIGHBOUR: 'it returns false'. Refute it at one input. -/
def streamSourcesWrong : ChangeSpec := { name := "streamSources", fn := fun _ => fun
  | [d1, d2, d3] => { results := [.lit (.bool false)], args := [d1, d2, d3] }
  | _ => none }
def StreamSourcesWrongFalsely : Prop := streamSourcesRow.holds Tryd.pinned (OpenSpec.ofChange streamSourcesWrong)

/-- 'umbralaw10.StreamBlock': WHATEVER THE INPUT: true; the input reads as it did. -/
def streamBlockSpec : ChangeSpec := { name := "streamBlock", fn := fun _ => fun
  | [d1, d2, d3] => { results := [.lit (.bool true)], args := [d1, d2, d3] }
  | _ => none }
def streamBlockRow : OpenClaim := { program := "ytbepgbpmgiihbaadoor", sum := "488f465caab9d82c4f17cd13a5bf9726a242fe54c100f2277b55e42764472acc", func := "umbra/umbralaw10.StreamBlock", spec := "streamBlock", named := ["umbra/chacha.groups"], apart := false, laid := [("umbra/chacha.groups", laid_umbra_chacha_groups)] }
def StreamBlockSaid : Prop := streamBlockRow.holds Tryd.pinned (OpenSpec.ofChange streamBlockSpec)

/-- ITS FALSE NEIGHBOUR: 'it returns false'. Refute it at one input. -/
def streamBlockWrong : ChangeSpec := { name := "streamBlock", fn := fun _ => fun
  | [d1, d2, d3] => { results := [.lit (.bool false)], args := [d1, d2, d3] }
  | _ => none }
def StreamBlockWrongFalsely : Prop := streamBlockRow.holds Tryd.pinned (OpenSpec.ofChange streamBlockWrong)

/- THE SECOND FORM. 'bulk': how many values and letters a reading holds, each counted each time it is reached (what is shared counts as often as it is met; a slice's spare places count too). A statement '..UptoSaid' is the law's where the arguments, and the package variables that the reading takes, are together of bulk at most 1048576: NARROWER than '..Said'. Prove '..Said' where nothing that the law and all that it calls make is longer than what came in: it says more and counts as full. Else prove '..UptoSaid'. A law counts once. -/
mutual
def uptoBulk {H : Type} : DataW H → Nat
  | .lit (.string bytes) => bytes.length + 1
  | .lit _ => 1
  | .nil => 1
  | .ptr d => uptoBulk d + 1
  | .slice elems spare => uptoBulkAll elems + uptoBulkAll spare + 1
  | .agg parts => uptoBulkAll parts + 1
  | .iface _ d => uptoBulk d + 1
  | .map entries => uptoBulkEntries entries + 1
  | .held _ => 1
def uptoBulkAll {H : Type} : List (DataW H) → Nat
  | [] => 0
  | d :: r => uptoBulk d + uptoBulkAll r
def uptoBulkEntries {H : Type} : List (Lit × DataW H) → Nat
  | [] => 0
  | x :: r => uptoBulkEntry x + uptoBulkEntries r
def uptoBulkEntry {H : Type} : Lit × DataW H → Nat
  | (.string bytes, d) => bytes.length + uptoBulk d + 1
  | (_, d) => uptoBulk d + 1
 end
def uptoSmall : (H : Type) → List (DataW H) → Bool := fun _ ds => decide (uptoBulkAll ds ≤ 1048576)
def OpenSpec.upto (s : _root_.Go.ChangeSpec) : _root_.Go.OpenSpec := { _root_.Go.OpenSpec.ofChange s with cond := some uptoSmall }

/-- 'umbralaw10.StreamDraws', WHERE WHAT IT READS IS OF BULK AT MOST 1048576: true; the input reads as it did. -/
def streamDrawsUptoRow : OpenClaim := { program := "ytbepgbpmgiihbaadoor", sum := "488f465caab9d82c4f17cd13a5bf9726a242fe54c100f2277b55e42764472acc", func := "umbra/umbralaw10.StreamDraws", spec := "streamDraws", named := ["umbra/chacha.groups"], apart := false, laid := [("umbra/chacha.groups", laid_umbra_chacha_groups)], narrowed := true }
def StreamDrawsUptoSaid : Prop := streamDrawsUptoRow.holds Tryd.pinned (OpenSpec.upto streamDrawsSpec)

/-- 'umbralaw10.StreamSources', WHERE WHAT IT READS IS OF BULK AT MOST 1048576: true; the input reads as it did. -/
def streamSourcesUptoRow : OpenClaim := { program := "ytbepgbpmgiihbaadoor", sum := "488f465caab9d82c4f17cd13a5bf9726a242fe54c100f2277b55e42764472acc", func := "umbra/umbralaw10.StreamSources", spec := "streamSources", named := ["umbra/chacha.groups"], apart := false, laid := [("umbra/chacha.groups", laid_umbra_chacha_groups)], narrowed := true }
def StreamSourcesUptoSaid : Prop := streamSourcesUptoRow.holds Tryd.pinned (OpenSpec.upto streamSourcesSpec)

/-- 'umbralaw10.StreamBlock', WHERE WHAT IT READS IS OF BULK AT MOST 1048576: true; the input reads as it did. -/
def streamBlockUptoRow : OpenClaim := { program := "ytbepgbpmgiihbaadoor", sum := "488f465caab9d82c4f17cd13a5bf9726a242fe54c100f2277b55e42764472acc", func := "umbra/umbralaw10.StreamBlock", spec := "streamBlock", named := ["umbra/chacha.groups"], apart := false, laid := [("umbra/chacha.groups", laid_umbra_chacha_groups)], narrowed := true }
def StreamBlockUptoSaid : Prop := streamBlockUptoRow.holds Tryd.pinned (OpenSpec.upto streamBlockSpec)

end Rows
end Go.Proofs.YtbepgbpmgiihbaaDoor
