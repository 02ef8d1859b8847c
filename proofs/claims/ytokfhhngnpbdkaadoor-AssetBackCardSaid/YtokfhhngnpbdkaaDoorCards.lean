/-
  DERIVED. GIVEN WITH THE SEED: THE CARDS: each row of YtokfhhngnpbdkaaDoorRows.lean that lists a variable, with what it lists TIED to the program's text (the seventh form; the later family's looks); each row that meets fmt, with fmt's text TOLD by the authors' own Lean function (tested against real Go, not proved from fmt's source: count such statements apart). THE CARD IS WHAT COUNTS. Prove the row's statement (the work); the ties are given (YtokfhhngnpbdkaaDoorTie.lean); close each card by the builder's one call (the guide's Derived/Test/ToyasCard.lean, 'card_holds'). Laid BY PROGRAM, IN A SANDBOX (cutbox-door.mjs). By AI agents, Wed Nov 11 2026. No macro, syntax, notation, axiom, sorry.
-/
import Derived.Test.YtokfhhngnpbdkaaDoorRows
import GoSem.ClaimSeven
namespace Go.Proofs.YtokfhhngnpbdkaaDoor
namespace Rows

/-- THE TIED CARD OF 'umbralaw15.AssetChecks'. -/
def assetChecksCard : Claim7 := { stood := { row := assetChecksRow, standIns := [], harness := (true, "bf151aaf84daa91b1aa4b01c75b9aab0380e5fd6524b0804d351bc723877185f"), looks := false }, kinds := [], alts := [], laidByText := true, laidKinds := [.data], laidTests := true, laidLooks := .later }
def AssetChecksCardSaid : Prop := Claim7.holds Tryd.pinned (.plain (OpenSpec.ofChange assetChecksSpec)) assetChecksCard

/-- THE TIED CARD OF 'umbralaw15.AssetEncodes'. -/
def assetEncodesCard : Claim7 := { stood := { row := assetEncodesRow, standIns := [], harness := (true, "bf151aaf84daa91b1aa4b01c75b9aab0380e5fd6524b0804d351bc723877185f"), looks := false }, kinds := [], alts := [], laidByText := true, laidKinds := [.data], laidTests := true, laidLooks := .later }
def AssetEncodesCardSaid : Prop := Claim7.holds Tryd.pinned (.plain (OpenSpec.ofChange assetEncodesSpec)) assetEncodesCard

/-- THE TIED CARD OF 'umbralaw15.AssetDecodes'. -/
def assetDecodesCard : Claim7 := { stood := { row := assetDecodesRow, standIns := [], harness := (true, "bf151aaf84daa91b1aa4b01c75b9aab0380e5fd6524b0804d351bc723877185f"), looks := false }, kinds := [], alts := [], laidByText := true, laidKinds := [.data], laidTests := true, laidLooks := .later }
def AssetDecodesCardSaid : Prop := Claim7.holds Tryd.pinned (.plain (OpenSpec.ofChange assetDecodesSpec)) assetDecodesCard

/-- THE TIED CARD OF 'umbralaw15.AssetSame'. -/
def assetSameCard : Claim7 := { stood := { row := assetSameRow, standIns := [], harness := (true, "bf151aaf84daa91b1aa4b01c75b9aab0380e5fd6524b0804d351bc723877185f"), looks := false }, kinds := [], alts := [], laidByText := true, laidKinds := [.data], laidTests := true, laidLooks := .later }
def AssetSameCardSaid : Prop := Claim7.holds Tryd.pinned (.plain (OpenSpec.ofChange assetSameSpec)) assetSameCard

/-- THE TIED CARD OF 'umbralaw15.AssetBack'. -/
def assetBackCard : Claim7 := { stood := { row := assetBackRow, standIns := [], harness := (true, "bf151aaf84daa91b1aa4b01c75b9aab0380e5fd6524b0804d351bc723877185f"), looks := false }, kinds := [], alts := [], laidByText := true, laidKinds := [.data], laidTests := true, laidLooks := .later }
def AssetBackCardSaid : Prop := Claim7.holds Tryd.pinned (.plain (OpenSpec.ofChange assetBackSpec)) assetBackCard

/-- THE SECOND FORM's CARD OF 'umbralaw15.AssetChecks'. -/
def assetChecksUptoCard : Claim7 := { stood := { row := assetChecksUptoRow, standIns := [], harness := (true, "bf151aaf84daa91b1aa4b01c75b9aab0380e5fd6524b0804d351bc723877185f"), looks := false }, kinds := [], alts := [], laidByText := true, laidKinds := [.data], laidTests := true, laidLooks := .later }
def AssetChecksUptoCardSaid : Prop := Claim7.holds Tryd.pinned (.plain (OpenSpec.upto assetChecksSpec)) assetChecksUptoCard

/-- THE SECOND FORM's CARD OF 'umbralaw15.AssetEncodes'. -/
def assetEncodesUptoCard : Claim7 := { stood := { row := assetEncodesUptoRow, standIns := [], harness := (true, "bf151aaf84daa91b1aa4b01c75b9aab0380e5fd6524b0804d351bc723877185f"), looks := false }, kinds := [], alts := [], laidByText := true, laidKinds := [.data], laidTests := true, laidLooks := .later }
def AssetEncodesUptoCardSaid : Prop := Claim7.holds Tryd.pinned (.plain (OpenSpec.upto assetEncodesSpec)) assetEncodesUptoCard

/-- THE SECOND FORM's CARD OF 'umbralaw15.AssetDecodes'. -/
def assetDecodesUptoCard : Claim7 := { stood := { row := assetDecodesUptoRow, standIns := [], harness := (true, "bf151aaf84daa91b1aa4b01c75b9aab0380e5fd6524b0804d351bc723877185f"), looks := false }, kinds := [], alts := [], laidByText := true, laidKinds := [.data], laidTests := true, laidLooks := .later }
def AssetDecodesUptoCardSaid : Prop := Claim7.holds Tryd.pinned (.plain (OpenSpec.upto assetDecodesSpec)) assetDecodesUptoCard

/-- THE SECOND FORM's CARD OF 'umbralaw15.AssetSame'. -/
def assetSameUptoCard : Claim7 := { stood := { row := assetSameUptoRow, standIns := [], harness := (true, "bf151aaf84daa91b1aa4b01c75b9aab0380e5fd6524b0804d351bc723877185f"), looks := false }, kinds := [], alts := [], laidByText := true, laidKinds := [.data], laidTests := true, laidLooks := .later }
def AssetSameUptoCardSaid : Prop := Claim7.holds Tryd.pinned (.plain (OpenSpec.upto assetSameSpec)) assetSameUptoCard

/-- THE SECOND FORM's CARD OF 'umbralaw15.AssetBack'. -/
def assetBackUptoCard : Claim7 := { stood := { row := assetBackUptoRow, standIns := [], harness := (true, "bf151aaf84daa91b1aa4b01c75b9aab0380e5fd6524b0804d351bc723877185f"), looks := false }, kinds := [], alts := [], laidByText := true, laidKinds := [.data], laidTests := true, laidLooks := .later }
def AssetBackUptoCardSaid : Prop := Claim7.holds Tryd.pinned (.plain (OpenSpec.upto assetBackSpec)) assetBackUptoCard
end Rows
end Go.Proofs.YtokfhhngnpbdkaaDoor
