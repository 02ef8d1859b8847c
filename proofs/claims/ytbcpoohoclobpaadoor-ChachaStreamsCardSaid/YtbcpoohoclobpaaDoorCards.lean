/-
  DERIVED. GIVEN WITH THE SEED: THE CARDS: each row of YtbcpoohoclobpaaDoorRows.lean that lists a variable, with what it lists TIED to the program's text (the seventh form; the later family's looks); each row that meets fmt, with fmt's text TOLD by the authors' own Lean function (tested against real Go, not proved from fmt's source: count such statements apart). THE CARD IS WHAT COUNTS. Prove the row's statement (the work); the ties are given (YtbcpoohoclobpaaDoorTie.lean); close each card by the builder's one call (the guide's Derived/Test/ToyasCard.lean, 'card_holds'). Laid BY PROGRAM, IN A SANDBOX (cutbox-door.mjs). By AI agents, Wed Nov 11 2026. No macro, syntax, notation, axiom, sorry.
-/
import Derived.Test.YtbcpoohoclobpaaDoorRows
import GoSem.ClaimSeven
namespace Go.Proofs.YtbcpoohoclobpaaDoor
namespace Rows

/-- THE TIED CARD OF 'umbralaw06.ChachaBlocks'. -/
def chachaBlocksCard : Claim7 := { stood := { row := chachaBlocksRow, standIns := [], harness := (true, "91016e51ab449f9b31bb1e098d8ce1b94f3bff2ffe1c5de9da5f72a591044053"), looks := false }, kinds := [], alts := [], laidByText := true, laidKinds := [.data], laidTests := true, laidLooks := .later }
def ChachaBlocksCardSaid : Prop := Claim7.holds Tryd.pinned (.plain (OpenSpec.ofChange chachaBlocksSpec)) chachaBlocksCard

/-- THE TIED CARD OF 'umbralaw06.ChachaStreams'. -/
def chachaStreamsCard : Claim7 := { stood := { row := chachaStreamsRow, standIns := [], harness := (true, "91016e51ab449f9b31bb1e098d8ce1b94f3bff2ffe1c5de9da5f72a591044053"), looks := false }, kinds := [], alts := [], laidByText := true, laidKinds := [.data], laidTests := true, laidLooks := .later }
def ChachaStreamsCardSaid : Prop := Claim7.holds Tryd.pinned (.plain (OpenSpec.ofChange chachaStreamsSpec)) chachaStreamsCard

/-- THE TIED CARD OF 'umbralaw06.ChachaBack'. -/
def chachaBackCard : Claim7 := { stood := { row := chachaBackRow, standIns := [], harness := (true, "91016e51ab449f9b31bb1e098d8ce1b94f3bff2ffe1c5de9da5f72a591044053"), looks := false }, kinds := [], alts := [], laidByText := true, laidKinds := [.data], laidTests := true, laidLooks := .later }
def ChachaBackCardSaid : Prop := Claim7.holds Tryd.pinned (.plain (OpenSpec.ofChange chachaBackSpec)) chachaBackCard

/-- THE TIED CARD OF 'umbralaw06.ChachaLater'. -/
def chachaLaterCard : Claim7 := { stood := { row := chachaLaterRow, standIns := [], harness := (true, "91016e51ab449f9b31bb1e098d8ce1b94f3bff2ffe1c5de9da5f72a591044053"), looks := false }, kinds := [], alts := [], laidByText := true, laidKinds := [.data], laidTests := true, laidLooks := .later }
def ChachaLaterCardSaid : Prop := Claim7.holds Tryd.pinned (.plain (OpenSpec.ofChange chachaLaterSpec)) chachaLaterCard

/-- THE SECOND FORM's CARD OF 'umbralaw06.ChachaBlocks'. -/
def chachaBlocksUptoCard : Claim7 := { stood := { row := chachaBlocksUptoRow, standIns := [], harness := (true, "91016e51ab449f9b31bb1e098d8ce1b94f3bff2ffe1c5de9da5f72a591044053"), looks := false }, kinds := [], alts := [], laidByText := true, laidKinds := [.data], laidTests := true, laidLooks := .later }
def ChachaBlocksUptoCardSaid : Prop := Claim7.holds Tryd.pinned (.plain (OpenSpec.upto chachaBlocksSpec)) chachaBlocksUptoCard

/-- THE SECOND FORM's CARD OF 'umbralaw06.ChachaStreams'. -/
def chachaStreamsUptoCard : Claim7 := { stood := { row := chachaStreamsUptoRow, standIns := [], harness := (true, "91016e51ab449f9b31bb1e098d8ce1b94f3bff2ffe1c5de9da5f72a591044053"), looks := false }, kinds := [], alts := [], laidByText := true, laidKinds := [.data], laidTests := true, laidLooks := .later }
def ChachaStreamsUptoCardSaid : Prop := Claim7.holds Tryd.pinned (.plain (OpenSpec.upto chachaStreamsSpec)) chachaStreamsUptoCard

/-- THE SECOND FORM's CARD OF 'umbralaw06.ChachaBack'. -/
def chachaBackUptoCard : Claim7 := { stood := { row := chachaBackUptoRow, standIns := [], harness := (true, "91016e51ab449f9b31bb1e098d8ce1b94f3bff2ffe1c5de9da5f72a591044053"), looks := false }, kinds := [], alts := [], laidByText := true, laidKinds := [.data], laidTests := true, laidLooks := .later }
def ChachaBackUptoCardSaid : Prop := Claim7.holds Tryd.pinned (.plain (OpenSpec.upto chachaBackSpec)) chachaBackUptoCard

/-- THE SECOND FORM's CARD OF 'umbralaw06.ChachaLater'. -/
def chachaLaterUptoCard : Claim7 := { stood := { row := chachaLaterUptoRow, standIns := [], harness := (true, "91016e51ab449f9b31bb1e098d8ce1b94f3bff2ffe1c5de9da5f72a591044053"), looks := false }, kinds := [], alts := [], laidByText := true, laidKinds := [.data], laidTests := true, laidLooks := .later }
def ChachaLaterUptoCardSaid : Prop := Claim7.holds Tryd.pinned (.plain (OpenSpec.upto chachaLaterSpec)) chachaLaterUptoCard
end Rows
end Go.Proofs.YtbcpoohoclobpaaDoor
