/-
  DERIVED. GIVEN WITH THE SEED: THE CARDS: each row of YtjkeaiihjbcfgaaDoorRows.lean that lists a variable, with what it lists TIED to the program's text (the seventh form; the later family's looks); each row that meets fmt, with fmt's text TOLD by the authors' own Lean function (tested against real Go, not proved from fmt's source: count such statements apart). THE CARD IS WHAT COUNTS. Prove the row's statement (the work); the ties are given (YtjkeaiihjbcfgaaDoorTie.lean); close each card by the builder's one call (the guide's Derived/Test/ToyasCard.lean, 'card_holds'). Laid BY PROGRAM, IN A SANDBOX (cutbox-door.mjs). By AI agents, Wed Nov 11 2026. No macro, syntax, notation, axiom, sorry.
-/
import Derived.Test.YtjkeaiihjbcfgaaDoorRows
import GoSem.ClaimSeven
namespace Go.Proofs.YtjkeaiihjbcfgaaDoor
namespace Rows

/-- THE TIED CARD OF 'umbralaw08.AeadMacs'. -/
def aeadMacsCard : Claim7 := { stood := { row := aeadMacsRow, standIns := [], harness := (true, "e6b1e9946a92869a436294dbd7dd1c349f7b837c241fd0801426c20205b2897d"), looks := false }, kinds := [], alts := [], laidByText := true, laidKinds := [.data], laidTests := true, laidLooks := .later }
def AeadMacsCardSaid : Prop := Claim7.holds Tryd.pinned (.plain (OpenSpec.ofChange aeadMacsSpec)) aeadMacsCard

/-- THE TIED CARD OF 'umbralaw08.AeadSeals'. -/
def aeadSealsCard : Claim7 := { stood := { row := aeadSealsRow, standIns := [], harness := (true, "e6b1e9946a92869a436294dbd7dd1c349f7b837c241fd0801426c20205b2897d"), looks := false }, kinds := [], alts := [], laidByText := true, laidKinds := [.data], laidTests := true, laidLooks := .later }
def AeadSealsCardSaid : Prop := Claim7.holds Tryd.pinned (.plain (OpenSpec.ofChange aeadSealsSpec)) aeadSealsCard

/-- THE TIED CARD OF 'umbralaw08.AeadOpens'. -/
def aeadOpensCard : Claim7 := { stood := { row := aeadOpensRow, standIns := [], harness := (true, "e6b1e9946a92869a436294dbd7dd1c349f7b837c241fd0801426c20205b2897d"), looks := false }, kinds := [], alts := [], laidByText := true, laidKinds := [.data], laidTests := true, laidLooks := .later }
def AeadOpensCardSaid : Prop := Claim7.holds Tryd.pinned (.plain (OpenSpec.ofChange aeadOpensSpec)) aeadOpensCard

/-- THE TIED CARD OF 'umbralaw08.AeadBack'. -/
def aeadBackCard : Claim7 := { stood := { row := aeadBackRow, standIns := [], harness := (true, "e6b1e9946a92869a436294dbd7dd1c349f7b837c241fd0801426c20205b2897d"), looks := false }, kinds := [], alts := [], laidByText := true, laidKinds := [.data], laidTests := true, laidLooks := .later }
def AeadBackCardSaid : Prop := Claim7.holds Tryd.pinned (.plain (OpenSpec.ofChange aeadBackSpec)) aeadBackCard

/-- THE TIED CARD OF 'umbralaw08.AeadJust'. -/
def aeadJustCard : Claim7 := { stood := { row := aeadJustRow, standIns := [], harness := (true, "e6b1e9946a92869a436294dbd7dd1c349f7b837c241fd0801426c20205b2897d"), looks := false }, kinds := [], alts := [], laidByText := true, laidKinds := [.data], laidTests := true, laidLooks := .later }
def AeadJustCardSaid : Prop := Claim7.holds Tryd.pinned (.plain (OpenSpec.ofChange aeadJustSpec)) aeadJustCard

/-- THE TIED CARD OF 'umbralaw08.AeadParts'. -/
def aeadPartsCard : Claim7 := { stood := { row := aeadPartsRow, standIns := [], harness := (true, "e6b1e9946a92869a436294dbd7dd1c349f7b837c241fd0801426c20205b2897d"), looks := false }, kinds := [], alts := [], laidByText := true, laidKinds := [.data], laidTests := true, laidLooks := .later }
def AeadPartsCardSaid : Prop := Claim7.holds Tryd.pinned (.plain (OpenSpec.ofChange aeadPartsSpec)) aeadPartsCard

/-- THE SECOND FORM's CARD OF 'umbralaw08.AeadMacs'. -/
def aeadMacsUptoCard : Claim7 := { stood := { row := aeadMacsUptoRow, standIns := [], harness := (true, "e6b1e9946a92869a436294dbd7dd1c349f7b837c241fd0801426c20205b2897d"), looks := false }, kinds := [], alts := [], laidByText := true, laidKinds := [.data], laidTests := true, laidLooks := .later }
def AeadMacsUptoCardSaid : Prop := Claim7.holds Tryd.pinned (.plain (OpenSpec.upto aeadMacsSpec)) aeadMacsUptoCard

/-- THE SECOND FORM's CARD OF 'umbralaw08.AeadSeals'. -/
def aeadSealsUptoCard : Claim7 := { stood := { row := aeadSealsUptoRow, standIns := [], harness := (true, "e6b1e9946a92869a436294dbd7dd1c349f7b837c241fd0801426c20205b2897d"), looks := false }, kinds := [], alts := [], laidByText := true, laidKinds := [.data], laidTests := true, laidLooks := .later }
def AeadSealsUptoCardSaid : Prop := Claim7.holds Tryd.pinned (.plain (OpenSpec.upto aeadSealsSpec)) aeadSealsUptoCard

/-- THE SECOND FORM's CARD OF 'umbralaw08.AeadOpens'. -/
def aeadOpensUptoCard : Claim7 := { stood := { row := aeadOpensUptoRow, standIns := [], harness := (true, "e6b1e9946a92869a436294dbd7dd1c349f7b837c241fd0801426c20205b2897d"), looks := false }, kinds := [], alts := [], laidByText := true, laidKinds := [.data], laidTests := true, laidLooks := .later }
def AeadOpensUptoCardSaid : Prop := Claim7.holds Tryd.pinned (.plain (OpenSpec.upto aeadOpensSpec)) aeadOpensUptoCard

/-- THE SECOND FORM's CARD OF 'umbralaw08.AeadBack'. -/
def aeadBackUptoCard : Claim7 := { stood := { row := aeadBackUptoRow, standIns := [], harness := (true, "e6b1e9946a92869a436294dbd7dd1c349f7b837c241fd0801426c20205b2897d"), looks := false }, kinds := [], alts := [], laidByText := true, laidKinds := [.data], laidTests := true, laidLooks := .later }
def AeadBackUptoCardSaid : Prop := Claim7.holds Tryd.pinned (.plain (OpenSpec.upto aeadBackSpec)) aeadBackUptoCard

/-- THE SECOND FORM's CARD OF 'umbralaw08.AeadJust'. -/
def aeadJustUptoCard : Claim7 := { stood := { row := aeadJustUptoRow, standIns := [], harness := (true, "e6b1e9946a92869a436294dbd7dd1c349f7b837c241fd0801426c20205b2897d"), looks := false }, kinds := [], alts := [], laidByText := true, laidKinds := [.data], laidTests := true, laidLooks := .later }
def AeadJustUptoCardSaid : Prop := Claim7.holds Tryd.pinned (.plain (OpenSpec.upto aeadJustSpec)) aeadJustUptoCard

/-- THE SECOND FORM's CARD OF 'umbralaw08.AeadParts'. -/
def aeadPartsUptoCard : Claim7 := { stood := { row := aeadPartsUptoRow, standIns := [], harness := (true, "e6b1e9946a92869a436294dbd7dd1c349f7b837c241fd0801426c20205b2897d"), looks := false }, kinds := [], alts := [], laidByText := true, laidKinds := [.data], laidTests := true, laidLooks := .later }
def AeadPartsUptoCardSaid : Prop := Claim7.holds Tryd.pinned (.plain (OpenSpec.upto aeadPartsSpec)) aeadPartsUptoCard
end Rows
end Go.Proofs.YtjkeaiihjbcfgaaDoor
