/-
  DERIVED. GIVEN WITH THE SEED: THE CARDS: each row of YtbepgbpmgiihbaaDoorRows.lean that lists a variable, with what it lists TIED to the program's text (the seventh form; the later family's looks); each row that meets fmt, with fmt's text TOLD by the authors' own Lean function (tested against real Go, not proved from fmt's source: count such statements apart). THE CARD IS WHAT COUNTS. Prove the row's statement (the work); the ties are given (YtbepgbpmgiihbaaDoorTie.lean); close each card by the builder's one call (the guide's Derived/Test/ToyasCard.lean, 'card_holds'). Laid BY PROGRAM, IN A SANDBOX (cutbox-door.mjs). By AI agents, Wed Nov 11 2026. No macro, syntax, notation, axiom, sorry.
-/
import Derived.Test.YtbepgbpmgiihbaaDoorRows
import GoSem.ClaimSeven
namespace Go.Proofs.YtbepgbpmgiihbaaDoor
namespace Rows

/-- THE TIED CARD OF 'umbralaw10.StreamDraws'. -/
def streamDrawsCard : Claim7 := { stood := { row := streamDrawsRow, standIns := [], harness := (true, "f9f72b79cf423aacce9e297bec6127dd34d9b5b131ebf83696ed5a4f9804e24d"), looks := false }, kinds := [], alts := [], laidByText := true, laidKinds := [.data], laidTests := true, laidLooks := .later }
def StreamDrawsCardSaid : Prop := Claim7.holds Tryd.pinned (.plain (OpenSpec.ofChange streamDrawsSpec)) streamDrawsCard

/-- THE TIED CARD OF 'umbralaw10.StreamSources'. -/
def streamSourcesCard : Claim7 := { stood := { row := streamSourcesRow, standIns := [], harness := (true, "f9f72b79cf423aacce9e297bec6127dd34d9b5b131ebf83696ed5a4f9804e24d"), looks := false }, kinds := [], alts := [], laidByText := true, laidKinds := [.data], laidTests := true, laidLooks := .later }
def StreamSourcesCardSaid : Prop := Claim7.holds Tryd.pinned (.plain (OpenSpec.ofChange streamSourcesSpec)) streamSourcesCard

/-- THE TIED CARD OF 'umbralaw10.StreamBlock'. -/
def streamBlockCard : Claim7 := { stood := { row := streamBlockRow, standIns := [], harness := (true, "f9f72b79cf423aacce9e297bec6127dd34d9b5b131ebf83696ed5a4f9804e24d"), looks := false }, kinds := [], alts := [], laidByText := true, laidKinds := [.data], laidTests := true, laidLooks := .later }
def StreamBlockCardSaid : Prop := Claim7.holds Tryd.pinned (.plain (OpenSpec.ofChange streamBlockSpec)) streamBlockCard

/-- THE SECOND FORM's CARD OF 'umbralaw10.StreamDraws'. -/
def streamDrawsUptoCard : Claim7 := { stood := { row := streamDrawsUptoRow, standIns := [], harness := (true, "f9f72b79cf423aacce9e297bec6127dd34d9b5b131ebf83696ed5a4f9804e24d"), looks := false }, kinds := [], alts := [], laidByText := true, laidKinds := [.data], laidTests := true, laidLooks := .later }
def StreamDrawsUptoCardSaid : Prop := Claim7.holds Tryd.pinned (.plain (OpenSpec.upto streamDrawsSpec)) streamDrawsUptoCard

/-- THE SECOND FORM's CARD OF 'umbralaw10.StreamSources'. -/
def streamSourcesUptoCard : Claim7 := { stood := { row := streamSourcesUptoRow, standIns := [], harness := (true, "f9f72b79cf423aacce9e297bec6127dd34d9b5b131ebf83696ed5a4f9804e24d"), looks := false }, kinds := [], alts := [], laidByText := true, laidKinds := [.data], laidTests := true, laidLooks := .later }
def StreamSourcesUptoCardSaid : Prop := Claim7.holds Tryd.pinned (.plain (OpenSpec.upto streamSourcesSpec)) streamSourcesUptoCard

/-- THE SECOND FORM's CARD OF 'umbralaw10.StreamBlock'. -/
def streamBlockUptoCard : Claim7 := { stood := { row := streamBlockUptoRow, standIns := [], harness := (true, "f9f72b79cf423aacce9e297bec6127dd34d9b5b131ebf83696ed5a4f9804e24d"), looks := false }, kinds := [], alts := [], laidByText := true, laidKinds := [.data], laidTests := true, laidLooks := .later }
def StreamBlockUptoCardSaid : Prop := Claim7.holds Tryd.pinned (.plain (OpenSpec.upto streamBlockSpec)) streamBlockUptoCard
end Rows
end Go.Proofs.YtbepgbpmgiihbaaDoor
