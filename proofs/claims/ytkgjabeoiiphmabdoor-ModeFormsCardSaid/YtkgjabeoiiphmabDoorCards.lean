/-
  DERIVED. GIVEN WITH THE SEED: THE CARDS: each row of YtkgjabeoiiphmabDoorRows.lean that lists a variable, with what it lists TIED to the program's text (the seventh form; the later family's looks); each row that meets fmt, with fmt's text TOLD by the authors' own Lean function (tested against real Go, not proved from fmt's source: count such statements apart). THE CARD IS WHAT COUNTS. Prove the row's statement (the work); the ties are given (YtkgjabeoiiphmabDoorTie.lean); close each card by the builder's one call (the guide's Derived/Test/ToyasCard.lean, 'card_holds'). Laid BY PROGRAM, IN A SANDBOX (cutbox-door.mjs). By AI agents, Wed Nov 11 2026. No macro, syntax, notation, axiom, sorry.
-/
import Derived.Test.YtkgjabeoiiphmabDoorRows
import GoSem.ClaimSeven
namespace Go.Proofs.YtkgjabeoiiphmabDoor
namespace Rows

/-- THE TIED CARD OF 'formelaw2.ModeSides'. -/
def modeSidesCard : Claim7 := { stood := { row := modeSidesRow, standIns := [], harness := (true, "3435a13296a58ebfca396552673081fa0863af7b4db9411fc3f2fa9f98afc19b"), looks := false }, kinds := [], alts := [], laidByText := true, laidKinds := [.data, .data], laidTests := true, laidLooks := .later }
def ModeSidesCardSaid : Prop := Claim7.holds Tryd.pinned (.plain (OpenSpec.ofChange modeSidesSpec)) modeSidesCard

/-- THE TIED CARD OF 'formelaw2.ModeForms'. -/
def modeFormsCard : Claim7 := { stood := { row := modeFormsRow, standIns := [], harness := (true, "3435a13296a58ebfca396552673081fa0863af7b4db9411fc3f2fa9f98afc19b"), looks := false }, kinds := [], alts := [], laidByText := true, laidKinds := [.data, .data], laidTests := true, laidLooks := .later }
def ModeFormsCardSaid : Prop := Claim7.holds Tryd.pinned (.plain (OpenSpec.ofChange modeFormsSpec)) modeFormsCard

/-- THE TIED CARD OF 'formelaw2.ModeTable'. -/
def modeTableCard : Claim7 := { stood := { row := modeTableRow, standIns := [], harness := (true, "3435a13296a58ebfca396552673081fa0863af7b4db9411fc3f2fa9f98afc19b"), looks := false }, kinds := [], alts := [], laidByText := true, laidKinds := [.data, .data], laidTests := true, laidLooks := .later }
def ModeTableCardSaid : Prop := Claim7.holds Tryd.pinned (.plain (OpenSpec.ofChange modeTableSpec)) modeTableCard

/-- THE TIED CARD OF 'formelaw2.ModeApart'. -/
def modeApartCard : Claim7 := { stood := { row := modeApartRow, standIns := [], harness := (true, "3435a13296a58ebfca396552673081fa0863af7b4db9411fc3f2fa9f98afc19b"), looks := false }, kinds := [], alts := [], laidByText := true, laidKinds := [.data, .data], laidTests := true, laidLooks := .later }
def ModeApartCardSaid : Prop := Claim7.holds Tryd.pinned (.plain (OpenSpec.ofChange modeApartSpec)) modeApartCard

/-- THE TIED CARD OF 'formelaw3.Geoms'. -/
def geomsCard : Claim7 := { stood := { row := geomsRow, standIns := [], harness := (true, "3435a13296a58ebfca396552673081fa0863af7b4db9411fc3f2fa9f98afc19b"), looks := false }, kinds := [], alts := [], laidByText := true, laidKinds := [.data, .data], laidTests := true, laidLooks := .later }
def GeomsCardSaid : Prop := Claim7.holds Tryd.pinned (.plain (OpenSpec.ofChange geomsSpec)) geomsCard

/-- THE TIED CARD OF 'formelaw3.GeomBack'. -/
def geomBackCard : Claim7 := { stood := { row := geomBackRow, standIns := [], harness := (true, "3435a13296a58ebfca396552673081fa0863af7b4db9411fc3f2fa9f98afc19b"), looks := false }, kinds := [], alts := [], laidByText := true, laidKinds := [.data, .data], laidTests := true, laidLooks := .later }
def GeomBackCardSaid : Prop := Claim7.holds Tryd.pinned (.plain (OpenSpec.ofChange geomBackSpec)) geomBackCard

/-- THE SECOND FORM's CARD OF 'formelaw2.ModeSides'. -/
def modeSidesUptoCard : Claim7 := { stood := { row := modeSidesUptoRow, standIns := [], harness := (true, "3435a13296a58ebfca396552673081fa0863af7b4db9411fc3f2fa9f98afc19b"), looks := false }, kinds := [], alts := [], laidByText := true, laidKinds := [.data, .data], laidTests := true, laidLooks := .later }
def ModeSidesUptoCardSaid : Prop := Claim7.holds Tryd.pinned (.plain (OpenSpec.upto modeSidesSpec)) modeSidesUptoCard

/-- THE SECOND FORM's CARD OF 'formelaw2.ModeForms'. -/
def modeFormsUptoCard : Claim7 := { stood := { row := modeFormsUptoRow, standIns := [], harness := (true, "3435a13296a58ebfca396552673081fa0863af7b4db9411fc3f2fa9f98afc19b"), looks := false }, kinds := [], alts := [], laidByText := true, laidKinds := [.data, .data], laidTests := true, laidLooks := .later }
def ModeFormsUptoCardSaid : Prop := Claim7.holds Tryd.pinned (.plain (OpenSpec.upto modeFormsSpec)) modeFormsUptoCard

/-- THE SECOND FORM's CARD OF 'formelaw2.ModeTable'. -/
def modeTableUptoCard : Claim7 := { stood := { row := modeTableUptoRow, standIns := [], harness := (true, "3435a13296a58ebfca396552673081fa0863af7b4db9411fc3f2fa9f98afc19b"), looks := false }, kinds := [], alts := [], laidByText := true, laidKinds := [.data, .data], laidTests := true, laidLooks := .later }
def ModeTableUptoCardSaid : Prop := Claim7.holds Tryd.pinned (.plain (OpenSpec.upto modeTableSpec)) modeTableUptoCard

/-- THE SECOND FORM's CARD OF 'formelaw2.ModeApart'. -/
def modeApartUptoCard : Claim7 := { stood := { row := modeApartUptoRow, standIns := [], harness := (true, "3435a13296a58ebfca396552673081fa0863af7b4db9411fc3f2fa9f98afc19b"), looks := false }, kinds := [], alts := [], laidByText := true, laidKinds := [.data, .data], laidTests := true, laidLooks := .later }
def ModeApartUptoCardSaid : Prop := Claim7.holds Tryd.pinned (.plain (OpenSpec.upto modeApartSpec)) modeApartUptoCard

/-- THE SECOND FORM's CARD OF 'formelaw3.Geoms'. -/
def geomsUptoCard : Claim7 := { stood := { row := geomsUptoRow, standIns := [], harness := (true, "3435a13296a58ebfca396552673081fa0863af7b4db9411fc3f2fa9f98afc19b"), looks := false }, kinds := [], alts := [], laidByText := true, laidKinds := [.data, .data], laidTests := true, laidLooks := .later }
def GeomsUptoCardSaid : Prop := Claim7.holds Tryd.pinned (.plain (OpenSpec.upto geomsSpec)) geomsUptoCard

/-- THE SECOND FORM's CARD OF 'formelaw3.GeomBack'. -/
def geomBackUptoCard : Claim7 := { stood := { row := geomBackUptoRow, standIns := [], harness := (true, "3435a13296a58ebfca396552673081fa0863af7b4db9411fc3f2fa9f98afc19b"), looks := false }, kinds := [], alts := [], laidByText := true, laidKinds := [.data, .data], laidTests := true, laidLooks := .later }
def GeomBackUptoCardSaid : Prop := Claim7.holds Tryd.pinned (.plain (OpenSpec.upto geomBackSpec)) geomBackUptoCard
end Rows
end Go.Proofs.YtkgjabeoiiphmabDoor
