/-
  NARROWER THAN 'FOR EVERY INPUT', by the rows' own cells (each row's printed sentence says how): ShaPads: laid · ShaCompresses: laid · ShaRoots: laid · ShaSums: laid · ShaWrites: laid · ShaWhole: laid · ShaBack: laid.
  DERIVED. THE GIVEN ROWS OF THIS SEAT. 7 by the template 'for every input the law returns true; each argument reads behind the call as it read before'; 0 by the template 'total and deterministic' (their statements: YtajejlaoompieaaDoorTotals.lean).
  GIVEN WITH THE SEED: the statements are not yours to turn. If you find one false, say at which input.
  Laid BY PROGRAM, IN A SANDBOX (cutbox-rows.mjs): the forced cells as the released guide's own fill.sh prints them over the translation ae70ad79f0ed9f29… (all of the seat's roots in one cut). By AI agents, Wed Nov 11 2026. No macro, syntax, notation, axiom, sorry.
-/
import Derived.Test.YtajejlaoompieaaDoorChecked
import GoSem.Claim
import GoSem.ClaimJoined
import GoSem.ClaimMapViews
import Derived.JoinedTies
import Derived.KernelRfl
namespace Go.Proofs.YtajejlaoompieaaDoor
/- THE CELL 'sum', in the pinned program and in every row, IS THE sha256 OF THE DUMP (.gsa) THAT YtajejlaoompieaaDoorProg.lean LOADS. Nothing in Lean hashes anything: it is a label: what it is worth is what the hold of that sum in a sandbox is worth. -/
noncomputable def Tryd.pinned : Pinned := { name := "ytajejlaoompieaadoor", sum := "ae70ad79f0ed9f29d3101803b3f678f89d9e9f3f5f6e3821e3c8d81732c5bd5f", checked := Tryd.checked }
namespace Rows
def none {H : Type} : Left H := { results := [], args := [] }

/- WHAT THE LISTED PACKAGE-LEVEL VARIABLES READ AS WHEN THE CALL BEGINS. Each datum BY PROGRAM (the guide's laid-datum.mjs) off the statement by which the dump's own 'gosem.cut.vars' lays the variable. In a bare row this is a premise. The card (YtajejlaoompieaaDoorCards.lean) ties it to the program's text. -/
def laid_umbra_sha_initial {H : Type} : DataW H := .agg [.lit (.int .u32 1779033703), .lit (.int .u32 3144134277), .lit (.int .u32 1013904242), .lit (.int .u32 2773480762), .lit (.int .u32 1359893119), .lit (.int .u32 2600822924), .lit (.int .u32 528734635), .lit (.int .u32 1541459225)]
def laid_umbra_sha_k {H : Type} : DataW H := .agg [.lit (.int .u32 1116352408), .lit (.int .u32 1899447441), .lit (.int .u32 3049323471), .lit (.int .u32 3921009573), .lit (.int .u32 961987163), .lit (.int .u32 1508970993), .lit (.int .u32 2453635748), .lit (.int .u32 2870763221), .lit (.int .u32 3624381080), .lit (.int .u32 310598401), .lit (.int .u32 607225278), .lit (.int .u32 1426881987), .lit (.int .u32 1925078388), .lit (.int .u32 2162078206), .lit (.int .u32 2614888103), .lit (.int .u32 3248222580), .lit (.int .u32 3835390401), .lit (.int .u32 4022224774), .lit (.int .u32 264347078), .lit (.int .u32 604807628), .lit (.int .u32 770255983), .lit (.int .u32 1249150122), .lit (.int .u32 1555081692), .lit (.int .u32 1996064986), .lit (.int .u32 2554220882), .lit (.int .u32 2821834349), .lit (.int .u32 2952996808), .lit (.int .u32 3210313671), .lit (.int .u32 3336571891), .lit (.int .u32 3584528711), .lit (.int .u32 113926993), .lit (.int .u32 338241895), .lit (.int .u32 666307205), .lit (.int .u32 773529912), .lit (.int .u32 1294757372), .lit (.int .u32 1396182291), .lit (.int .u32 1695183700), .lit (.int .u32 1986661051), .lit (.int .u32 2177026350), .lit (.int .u32 2456956037), .lit (.int .u32 2730485921), .lit (.int .u32 2820302411), .lit (.int .u32 3259730800), .lit (.int .u32 3345764771), .lit (.int .u32 3516065817), .lit (.int .u32 3600352804), .lit (.int .u32 4094571909), .lit (.int .u32 275423344), .lit (.int .u32 430227734), .lit (.int .u32 506948616), .lit (.int .u32 659060556), .lit (.int .u32 883997877), .lit (.int .u32 958139571), .lit (.int .u32 1322822218), .lit (.int .u32 1537002063), .lit (.int .u32 1747873779), .lit (.int .u32 1955562222), .lit (.int .u32 2024104815), .lit (.int .u32 2227730452), .lit (.int .u32 2361852424), .lit (.int .u32 2428436474), .lit (.int .u32 2756734187), .lit (.int .u32 3204031479), .lit (.int .u32 3329325298)]

/-- 'umbralaw09.ShaPads': WHATEVER THE INPUT: true; the input reads as it did. -/
def shaPadsSpec : ChangeSpec := { name := "shaPads", fn := fun _ => fun
  | [d] => { results := [.lit (.bool true)], args := [d] }
  | _ => none }
def shaPadsRow : OpenClaim := { program := "ytajejlaoompieaadoor", sum := "ae70ad79f0ed9f29d3101803b3f678f89d9e9f3f5f6e3821e3c8d81732c5bd5f", func := "umbra/umbralaw09.ShaPads", spec := "shaPads", named := ["umbra/sha.initial", "umbra/sha.k"], apart := false, laid := [("umbra/sha.initial", laid_umbra_sha_initial), ("umbra/sha.k", laid_umbra_sha_k)] }
def ShaPadsSaid : Prop := shaPadsRow.holds Tryd.pinned (OpenSpec.ofChange shaPadsSpec)

/-- ITS FALSE NEIGHBOUR: 'it returns false'. Refute it at one input. -/
def shaPadsWrong : ChangeSpec := { name := "shaPads", fn := fun _ => fun
  | [d] => { results := [.lit (.bool false)], args := [d] }
  | _ => none }
def ShaPadsWrongFalsely : Prop := shaPadsRow.holds Tryd.pinned (OpenSpec.ofChange shaPadsWrong)

/-- 'umbralaw09.ShaCompresses': WHATEVER THE INPUT: true; the input reads as it did. -/
def shaCompressesSpec : ChangeSpec := { name := "shaCompresses", fn := fun _ => fun
  | [d1, d2] => { results := [.lit (.bool true)], args := [d1, d2] }
  | _ => none }
def shaCompressesRow : OpenClaim := { program := "ytajejlaoompieaadoor", sum := "ae70ad79f0ed9f29d3101803b3f678f89d9e9f3f5f6e3821e3c8d81732c5bd5f", func := "umbra/umbralaw09.ShaCompresses", spec := "shaCompresses", named := ["umbra/sha.k", "umbra/sha.initial"], apart := false, laid := [("umbra/sha.initial", laid_umbra_sha_initial), ("umbra/sha.k", laid_umbra_sha_k)] }
def ShaCompressesSaid : Prop := shaCompressesRow.holds Tryd.pinned (OpenSpec.ofChange shaCompressesSpec)

/-- ITS FALSE NEIGHBOUR: 'it returns false'. Refute it at one input. -/
def shaCompressesWrong : ChangeSpec := { name := "shaCompresses", fn := fun _ => fun
  | [d1, d2] => { results := [.lit (.bool false)], args := [d1, d2] }
  | _ => none }
def ShaCompressesWrongFalsely : Prop := shaCompressesRow.holds Tryd.pinned (OpenSpec.ofChange shaCompressesWrong)

/-- 'umbralaw09.ShaRoots': WHATEVER THE INPUT: true; the input reads as it did. -/
def shaRootsSpec : ChangeSpec := { name := "shaRoots", fn := fun _ => fun
  | [d1, d2] => { results := [.lit (.bool true)], args := [d1, d2] }
  | _ => none }
def shaRootsRow : OpenClaim := { program := "ytajejlaoompieaadoor", sum := "ae70ad79f0ed9f29d3101803b3f678f89d9e9f3f5f6e3821e3c8d81732c5bd5f", func := "umbra/umbralaw09.ShaRoots", spec := "shaRoots", inPlace := ["math/bits.Add64"], named := ["umbra/sha.initial", "umbra/sha.k"], apart := false, laid := [("umbra/sha.initial", laid_umbra_sha_initial), ("umbra/sha.k", laid_umbra_sha_k)] }
def ShaRootsSaid : Prop := shaRootsRow.holds Tryd.pinned (OpenSpec.ofChange shaRootsSpec)

/-- ITS FALSE NEIGHBOUR: 'it returns false'. Refute it at one input. -/
def shaRootsWrong : ChangeSpec := { name := "shaRoots", fn := fun _ => fun
  | [d1, d2] => { results := [.lit (.bool false)], args := [d1, d2] }
  | _ => none }
def ShaRootsWrongFalsely : Prop := shaRootsRow.holds Tryd.pinned (OpenSpec.ofChange shaRootsWrong)

/-- 'umbralaw09.ShaSums': WHATEVER THE INPUT: true; the input reads as it did. -/
def shaSumsSpec : ChangeSpec := { name := "shaSums", fn := fun _ => fun
  | [d1, d2] => { results := [.lit (.bool true)], args := [d1, d2] }
  | _ => none }
def shaSumsRow : OpenClaim := { program := "ytajejlaoompieaadoor", sum := "ae70ad79f0ed9f29d3101803b3f678f89d9e9f3f5f6e3821e3c8d81732c5bd5f", func := "umbra/umbralaw09.ShaSums", spec := "shaSums", named := ["umbra/sha.initial", "umbra/sha.k"], apart := false, laid := [("umbra/sha.initial", laid_umbra_sha_initial), ("umbra/sha.k", laid_umbra_sha_k)] }
def ShaSumsSaid : Prop := shaSumsRow.holds Tryd.pinned (OpenSpec.ofChange shaSumsSpec)

/-- ITS FALSE NEIGHBOUR: 'it returns false'. Refute it at one input. -/
def shaSumsWrong : ChangeSpec := { name := "shaSums", fn := fun _ => fun
  | [d1, d2] => { results := [.lit (.bool false)], args := [d1, d2] }
  | _ => none }
def ShaSumsWrongFalsely : Prop := shaSumsRow.holds Tryd.pinned (OpenSpec.ofChange shaSumsWrong)

/-- 'umbralaw09.ShaWrites': WHATEVER THE INPUT: true; the input reads as it did. -/
def shaWritesSpec : ChangeSpec := { name := "shaWrites", fn := fun _ => fun
  | [d] => { results := [.lit (.bool true)], args := [d] }
  | _ => none }
def shaWritesRow : OpenClaim := { program := "ytajejlaoompieaadoor", sum := "ae70ad79f0ed9f29d3101803b3f678f89d9e9f3f5f6e3821e3c8d81732c5bd5f", func := "umbra/umbralaw09.ShaWrites", spec := "shaWrites", named := ["umbra/sha.initial", "umbra/sha.k"], apart := false, laid := [("umbra/sha.initial", laid_umbra_sha_initial), ("umbra/sha.k", laid_umbra_sha_k)] }
def ShaWritesSaid : Prop := shaWritesRow.holds Tryd.pinned (OpenSpec.ofChange shaWritesSpec)

/-- ITS FALSE NEIGHBOUR: 'it returns false'. Refute it at one input. -/
def shaWritesWrong : ChangeSpec := { name := "shaWrites", fn := fun _ => fun
  | [d] => { results := [.lit (.bool false)], args := [d] }
  | _ => none }
def ShaWritesWrongFalsely : Prop := shaWritesRow.holds Tryd.pinned (OpenSpec.ofChange shaWritesWrong)

/-- 'umbralaw09.ShaWhole': WHATEVER THE INPUT: true; the input reads as it did. -/
def shaWholeSpec : ChangeSpec := { name := "shaWhole", fn := fun _ => fun
  | [d] => { results := [.lit (.bool true)], args := [d] }
  | _ => none }
def shaWholeRow : OpenClaim := { program := "ytajejlaoompieaadoor", sum := "ae70ad79f0ed9f29d3101803b3f678f89d9e9f3f5f6e3821e3c8d81732c5bd5f", func := "umbra/umbralaw09.ShaWhole", spec := "shaWhole", named := ["umbra/sha.initial", "umbra/sha.k"], apart := false, laid := [("umbra/sha.initial", laid_umbra_sha_initial), ("umbra/sha.k", laid_umbra_sha_k)] }
def ShaWholeSaid : Prop := shaWholeRow.holds Tryd.pinned (OpenSpec.ofChange shaWholeSpec)

/-- ITS FALSE NEIGHBOUR: 'it returns false'. Refute it at one input. -/
def shaWholeWrong : ChangeSpec := { name := "shaWhole", fn := fun _ => fun
  | [d] => { results := [.lit (.bool false)], args := [d] }
  | _ => none }
def ShaWholeWrongFalsely : Prop := shaWholeRow.holds Tryd.pinned (OpenSpec.ofChange shaWholeWrong)

/-- 'umbralaw09.ShaBack': WHATEVER THE INPUT: true; the input reads as it did. -/
def shaBackSpec : ChangeSpec := { name := "shaBack", fn := fun _ => fun
  | [d] => { results := [.lit (.bool true)], args := [d] }
  | _ => none }
def shaBackRow : OpenClaim := { program := "ytajejlaoompieaadoor", sum := "ae70ad79f0ed9f29d3101803b3f678f89d9e9f3f5f6e3821e3c8d81732c5bd5f", func := "umbra/umbralaw09.ShaBack", spec := "shaBack", named := ["umbra/sha.initial", "umbra/sha.k"], apart := false, laid := [("umbra/sha.initial", laid_umbra_sha_initial), ("umbra/sha.k", laid_umbra_sha_k)] }
def ShaBackSaid : Prop := shaBackRow.holds Tryd.pinned (OpenSpec.ofChange shaBackSpec)

/-- ITS FALSE NEIGHBOUR: 'it returns false'. Refute it at one input. -/
def shaBackWrong : ChangeSpec := { name := "shaBack", fn := fun _ => fun
  | [d] => { results := [.lit (.bool false)], args := [d] }
  | _ => none }
def ShaBackWrongFalsely : Prop := shaBackRow.holds Tryd.pinned (OpenSpec.ofChange shaBackWrong)

/- THE SECOND FORM. 'bulk': how many values and letters a reading holds, each counted each time it is reached (what is shared counts as often as it is met; a slice's spare places count too). A statement '..UptoSaid' is the law's where the arguments, and the package variables that the reading takes, are together of bulk at most 1048576: NARROWER than '..Said'. Prove '..Said' where nothing that the law and all that it calls make is longer than what came in: it says more and counts as full. Else prove '..UptoSaid'. A law counts once. -/
mutual
def uptoBulk {H : Type} : DataW H → Nat
  | .lit (.string bytes) => bytes.length + 1
  | .lit _ => 1
  | .nil => 1
  | .ptr d => uptoBulk d + 1
  | .slice elems spare => uptoBulkAll elems + uptoBulkAll spare + 1
  | .agg parts => uptoBulkAll parts + 1
  | .iface _ d => uptoBulk d + 1
  | .map entries => uptoBulkEntries entries + 1
  | .held _ => 1
def uptoBulkAll {H : Type} : List (DataW H) → Nat
  | [] => 0
  | d :: r => uptoBulk d + uptoBulkAll r
def uptoBulkEntries {H : Type} : List (Lit × DataW H) → Nat
  | [] => 0
  | x :: r => uptoBulkEntry x + uptoBulkEntries r
def uptoBulkEntry {H : Type} : Lit × DataW H → Nat
  | (.string bytes, d) => bytes.length + uptoBulk d + 1
  | (_, d) => uptoBulk d + 1
 end
def uptoSmall : (H : Type) → List (DataW H) → Bool := fun _ ds => decide (uptoBulkAll ds ≤ 1048576)
def OpenSpec.upto (s : _root_.Go.ChangeSpec) : _root_.Go.OpenSpec := { _root_.Go.OpenSpec.ofChange s with cond := some uptoSmall }

/-- 'umbralaw09.ShaPads', WHERE WHAT IT READS IS OF BULK AT MOST 1048576: true; the input reads as it did. -/
def shaPadsUptoRow : OpenClaim := { program := "ytajejlaoompieaadoor", sum := "ae70ad79f0ed9f29d3101803b3f678f89d9e9f3f5f6e3821e3c8d81732c5bd5f", func := "umbra/umbralaw09.ShaPads", spec := "shaPads", named := ["umbra/sha.initial", "umbra/sha.k"], apart := false, laid := [("umbra/sha.initial", laid_umbra_sha_initial), ("umbra/sha.k", laid_umbra_sha_k)], narrowed := true }
def ShaPadsUptoSaid : Prop := shaPadsUptoRow.holds Tryd.pinned (OpenSpec.upto shaPadsSpec)

/-- 'umbralaw09.ShaCompresses', WHERE WHAT IT READS IS OF BULK AT MOST 1048576: true; the input reads as it did. -/
def shaCompressesUptoRow : OpenClaim := { program := "ytajejlaoompieaadoor", sum := "ae70ad79f0ed9f29d3101803b3f678f89d9e9f3f5f6e3821e3c8d81732c5bd5f", func := "umbra/umbralaw09.ShaCompresses", spec := "shaCompresses", named := ["umbra/sha.k", "umbra/sha.initial"], apart := false, laid := [("umbra/sha.initial", laid_umbra_sha_initial), ("umbra/sha.k", laid_umbra_sha_k)], narrowed := true }
def ShaCompressesUptoSaid : Prop := shaCompressesUptoRow.holds Tryd.pinned (OpenSpec.upto shaCompressesSpec)

/-- 'umbralaw09.ShaRoots', WHERE WHAT IT READS IS OF BULK AT MOST 1048576: true; the input reads as it did. -/
def shaRootsUptoRow : OpenClaim := { program := "ytajejlaoompieaadoor", sum := "ae70ad79f0ed9f29d3101803b3f678f89d9e9f3f5f6e3821e3c8d81732c5bd5f", func := "umbra/umbralaw09.ShaRoots", spec := "shaRoots", inPlace := ["math/bits.Add64"], named := ["umbra/sha.initial", "umbra/sha.k"], apart := false, laid := [("umbra/sha.initial", laid_umbra_sha_initial), ("umbra/sha.k", laid_umbra_sha_k)], narrowed := true }
def ShaRootsUptoSaid : Prop := shaRootsUptoRow.holds Tryd.pinned (OpenSpec.upto shaRootsSpec)

/-- 'umbralaw09.ShaSums', WHERE WHAT IT READS IS OF BULK AT MOST 1048576: true; the input reads as it did. -/
def shaSumsUptoRow : OpenClaim := { program := "ytajejlaoompieaadoor", sum := "ae70ad79f0ed9f29d3101803b3f678f89d9e9f3f5f6e3821e3c8d81732c5bd5f", func := "umbra/umbralaw09.ShaSums", spec := "shaSums", named := ["umbra/sha.initial", "umbra/sha.k"], apart := false, laid := [("umbra/sha.initial", laid_umbra_sha_initial), ("umbra/sha.k", laid_umbra_sha_k)], narrowed := true }
def ShaSumsUptoSaid : Prop := shaSumsUptoRow.holds Tryd.pinned (OpenSpec.upto shaSumsSpec)

/-- 'umbralaw09.ShaWrites', WHERE WHAT IT READS IS OF BULK AT MOST 1048576: true; the input reads as it did. -/
def shaWritesUptoRow : OpenClaim := { program := "ytajejlaoompieaadoor", sum := "ae70ad79f0ed9f29d3101803b3f678f89d9e9f3f5f6e3821e3c8d81732c5bd5f", func := "umbra/umbralaw09.ShaWrites", spec := "shaWrites", named := ["umbra/sha.initial", "umbra/sha.k"], apart := false, laid := [("umbra/sha.initial", laid_umbra_sha_initial), ("umbra/sha.k", laid_umbra_sha_k)], narrowed := true }
def ShaWritesUptoSaid : Prop := shaWritesUptoRow.holds Tryd.pinned (OpenSpec.upto shaWritesSpec)

/-- 'umbralaw09.ShaWhole', WHERE WHAT IT READS IS OF BULK AT MOST 1048576: true; the input reads as it did. -/
def shaWholeUptoRow : OpenClaim := { program := "ytajejlaoompieaadoor", sum := "ae70ad79f0ed9f29d3101803b3f678f89d9e9f3f5f6e3821e3c8d81732c5bd5f", func := "umbra/umbralaw09.ShaWhole", spec := "shaWhole", named := ["umbra/sha.initial", "umbra/sha.k"], apart := false, laid := [("umbra/sha.initial", laid_umbra_sha_initial), ("umbra/sha.k", laid_umbra_sha_k)], narrowed := true }
def ShaWholeUptoSaid : Prop := shaWholeUptoRow.holds Tryd.pinned (OpenSpec.upto shaWholeSpec)

/-- 'umbralaw09.ShaBack', WHERE WHAT IT READS IS OF BULK AT MOST 1048576: true; the input reads as it did. -/
def shaBackUptoRow : OpenClaim := { program := "ytajejlaoompieaadoor", sum := "ae70ad79f0ed9f29d3101803b3f678f89d9e9f3f5f6e3821e3c8d81732c5bd5f", func := "umbra/umbralaw09.ShaBack", spec := "shaBack", named := ["umbra/sha.initial", "umbra/sha.k"], apart := false, laid := [("umbra/sha.initial", laid_umbra_sha_initial), ("umbra/sha.k", laid_umbra_sha_k)], narrowed := true }
def ShaBackUptoSaid : Prop := shaBackUptoRow.holds Tryd.pinned (OpenSpec.upto shaBackSpec)

end Rows
end Go.Proofs.YtajejlaoompieaaDoor
