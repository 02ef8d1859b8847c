/-
  DERIVED. GIVEN WITH THE SEED: THE CARDS: each row of YtbilamnnneddmaaGreatDoorRows.lean that lists a variable, with what it lists TIED to the program's text (the seventh form; the later family's looks); each row that meets fmt, with fmt's text TOLD by the authors' own Lean function (tested against real Go, not proved from fmt's source: count such statements apart). THE CARD IS WHAT COUNTS. Prove the row's statement (the work); the ties are given (YtbilamnnneddmaaGreatDoorTie.lean); close each card by the builder's one call (the guide's Derived/Test/ToyasCard.lean, 'card_holds'). Laid BY PROGRAM, IN A SANDBOX (cutbox-door.mjs). By AI agents, Wed Nov 11 2026. No macro, syntax, notation, axiom, sorry.
-/
import Derived.Test.YtbilamnnneddmaaGreatDoorRows
import GoSem.ClaimSeven
namespace Go.Proofs.YtbilamnnneddmaaGreatDoor
namespace Rows

/-- THE TIED CARD OF 'umbralaw16.BundleSeals'. -/
def bundleSealsCard : Claim7 := { stood := { row := bundleSealsRow, standIns := [], harness := (true, "08a5d1e348dafc29d441e27ca4af5d952f48659e00a1b70755536d7cc9dc8a1c"), looks := false }, kinds := [], alts := [], laidByText := true, laidKinds := [.data, .data], laidTests := true, laidLooks := .later }
def BundleSealsCardSaid : Prop := Claim7.holds Tryz.pinned (.plain (OpenSpec.ofChange bundleSealsSpec)) bundleSealsCard

/-- THE TIED CARD OF 'umbralaw16.BundleOpens'. -/
def bundleOpensCard : Claim7 := { stood := { row := bundleOpensRow, standIns := [], harness := (true, "08a5d1e348dafc29d441e27ca4af5d952f48659e00a1b70755536d7cc9dc8a1c"), looks := false }, kinds := [], alts := [], laidByText := true, laidKinds := [.data, .data], laidTests := true, laidLooks := .later }
def BundleOpensCardSaid : Prop := Claim7.holds Tryz.pinned (.plain (OpenSpec.ofChange bundleOpensSpec)) bundleOpensCard

/-- THE TIED CARD OF 'umbralaw16.BundleBack'. -/
def bundleBackCard : Claim7 := { stood := { row := bundleBackRow, standIns := [], harness := (true, "08a5d1e348dafc29d441e27ca4af5d952f48659e00a1b70755536d7cc9dc8a1c"), looks := false }, kinds := [], alts := [], laidByText := true, laidKinds := [.data, .data], laidTests := true, laidLooks := .later }
def BundleBackCardSaid : Prop := Claim7.holds Tryz.pinned (.plain (OpenSpec.ofChange bundleBackSpec)) bundleBackCard

/-- THE TIED CARD OF 'umbralaw16.BundleJust'. -/
def bundleJustCard : Claim7 := { stood := { row := bundleJustRow, standIns := [], harness := (true, "08a5d1e348dafc29d441e27ca4af5d952f48659e00a1b70755536d7cc9dc8a1c"), looks := false }, kinds := [], alts := [], laidByText := true, laidKinds := [.data, .data], laidTests := true, laidLooks := .later }
def BundleJustCardSaid : Prop := Claim7.holds Tryz.pinned (.plain (OpenSpec.ofChange bundleJustSpec)) bundleJustCard

/-- THE TIED CARD OF 'umbralaw16.BundleParts'. -/
def bundlePartsCard : Claim7 := { stood := { row := bundlePartsRow, standIns := [], harness := (true, "08a5d1e348dafc29d441e27ca4af5d952f48659e00a1b70755536d7cc9dc8a1c"), looks := false }, kinds := [], alts := [], laidByText := true, laidKinds := [.data, .data], laidTests := true, laidLooks := .later }
def BundlePartsCardSaid : Prop := Claim7.holds Tryz.pinned (.plain (OpenSpec.ofChange bundlePartsSpec)) bundlePartsCard

/-- THE TIED CARD OF 'umbralaw16.BundleCut'. -/
def bundleCutCard : Claim7 := { stood := { row := bundleCutRow, standIns := [], harness := (true, "08a5d1e348dafc29d441e27ca4af5d952f48659e00a1b70755536d7cc9dc8a1c"), looks := false }, kinds := [], alts := [], laidByText := true, laidKinds := [.data, .data], laidTests := true, laidLooks := .later }
def BundleCutCardSaid : Prop := Claim7.holds Tryz.pinned (.plain (OpenSpec.ofChange bundleCutSpec)) bundleCutCard

/-- THE SECOND FORM's CARD OF 'umbralaw16.BundleSeals'. -/
def bundleSealsUptoCard : Claim7 := { stood := { row := bundleSealsUptoRow, standIns := [], harness := (true, "08a5d1e348dafc29d441e27ca4af5d952f48659e00a1b70755536d7cc9dc8a1c"), looks := false }, kinds := [], alts := [], laidByText := true, laidKinds := [.data, .data], laidTests := true, laidLooks := .later }
def BundleSealsUptoCardSaid : Prop := Claim7.holds Tryz.pinned (.plain (OpenSpec.upto bundleSealsSpec)) bundleSealsUptoCard

/-- THE SECOND FORM's CARD OF 'umbralaw16.BundleOpens'. -/
def bundleOpensUptoCard : Claim7 := { stood := { row := bundleOpensUptoRow, standIns := [], harness := (true, "08a5d1e348dafc29d441e27ca4af5d952f48659e00a1b70755536d7cc9dc8a1c"), looks := false }, kinds := [], alts := [], laidByText := true, laidKinds := [.data, .data], laidTests := true, laidLooks := .later }
def BundleOpensUptoCardSaid : Prop := Claim7.holds Tryz.pinned (.plain (OpenSpec.upto bundleOpensSpec)) bundleOpensUptoCard

/-- THE SECOND FORM's CARD OF 'umbralaw16.BundleBack'. -/
def bundleBackUptoCard : Claim7 := { stood := { row := bundleBackUptoRow, standIns := [], harness := (true, "08a5d1e348dafc29d441e27ca4af5d952f48659e00a1b70755536d7cc9dc8a1c"), looks := false }, kinds := [], alts := [], laidByText := true, laidKinds := [.data, .data], laidTests := true, laidLooks := .later }
def BundleBackUptoCardSaid : Prop := Claim7.holds Tryz.pinned (.plain (OpenSpec.upto bundleBackSpec)) bundleBackUptoCard

/-- THE SECOND FORM's CARD OF 'umbralaw16.BundleJust'. -/
def bundleJustUptoCard : Claim7 := { stood := { row := bundleJustUptoRow, standIns := [], harness := (true, "08a5d1e348dafc29d441e27ca4af5d952f48659e00a1b70755536d7cc9dc8a1c"), looks := false }, kinds := [], alts := [], laidByText := true, laidKinds := [.data, .data], laidTests := true, laidLooks := .later }
def BundleJustUptoCardSaid : Prop := Claim7.holds Tryz.pinned (.plain (OpenSpec.upto bundleJustSpec)) bundleJustUptoCard

/-- THE SECOND FORM's CARD OF 'umbralaw16.BundleParts'. -/
def bundlePartsUptoCard : Claim7 := { stood := { row := bundlePartsUptoRow, standIns := [], harness := (true, "08a5d1e348dafc29d441e27ca4af5d952f48659e00a1b70755536d7cc9dc8a1c"), looks := false }, kinds := [], alts := [], laidByText := true, laidKinds := [.data, .data], laidTests := true, laidLooks := .later }
def BundlePartsUptoCardSaid : Prop := Claim7.holds Tryz.pinned (.plain (OpenSpec.upto bundlePartsSpec)) bundlePartsUptoCard

/-- THE SECOND FORM's CARD OF 'umbralaw16.BundleCut'. -/
def bundleCutUptoCard : Claim7 := { stood := { row := bundleCutUptoRow, standIns := [], harness := (true, "08a5d1e348dafc29d441e27ca4af5d952f48659e00a1b70755536d7cc9dc8a1c"), looks := false }, kinds := [], alts := [], laidByText := true, laidKinds := [.data, .data], laidTests := true, laidLooks := .later }
def BundleCutUptoCardSaid : Prop := Claim7.holds Tryz.pinned (.plain (OpenSpec.upto bundleCutSpec)) bundleCutUptoCard
end Rows
end Go.Proofs.YtbilamnnneddmaaGreatDoor
