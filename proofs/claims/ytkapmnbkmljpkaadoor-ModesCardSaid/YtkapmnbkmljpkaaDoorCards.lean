/-
  DERIVED. GIVEN WITH THE SEED: THE CARDS: each row of YtkapmnbkmljpkaaDoorRows.lean that lists a variable, with what it lists TIED to the program's text (the seventh form; the later family's looks); each row that meets fmt, with fmt's text TOLD by the authors' own Lean function (tested against real Go, not proved from fmt's source: count such statements apart). THE CARD IS WHAT COUNTS. Prove the row's statement (the work); the ties are given (YtkapmnbkmljpkaaDoorTie.lean); close each card by the builder's one call (the guide's Derived/Test/ToyasCard.lean, 'card_holds'). Laid BY PROGRAM, IN A SANDBOX (cutbox-door.mjs). By AI agents, Wed Nov 11 2026. No macro, syntax, notation, axiom, sorry.
-/
import Derived.Test.YtkapmnbkmljpkaaDoorRows
import GoSem.ClaimSeven
namespace Go.Proofs.YtkapmnbkmljpkaaDoor
namespace Rows

/-- THE TIED CARD OF 'formelaw2.Modes'. -/
def modesCard : Claim7 := { stood := { row := modesRow, standIns := [], harness := (true, "80ad0e909022da46ef22f6986b62450e08313398631889bb5e576635fa2b06e8"), looks := false }, kinds := [], alts := [], laidByText := true, laidKinds := [.data, .data], laidTests := true, laidLooks := .later }
def ModesCardSaid : Prop := Claim7.holds Tryd.pinned (.plain (OpenSpec.ofChange modesSpec)) modesCard

/-- THE TIED CARD OF 'formelaw2.ModeSides'. -/
def modeSidesCard : Claim7 := { stood := { row := modeSidesRow, standIns := [], harness := (true, "80ad0e909022da46ef22f6986b62450e08313398631889bb5e576635fa2b06e8"), looks := false }, kinds := [], alts := [], laidByText := true, laidKinds := [.data, .data], laidTests := true, laidLooks := .later }
def ModeSidesCardSaid : Prop := Claim7.holds Tryd.pinned (.plain (OpenSpec.ofChange modeSidesSpec)) modeSidesCard

/-- THE TIED CARD OF 'formelaw2.ModeForms'. -/
def modeFormsCard : Claim7 := { stood := { row := modeFormsRow, standIns := [], harness := (true, "80ad0e909022da46ef22f6986b62450e08313398631889bb5e576635fa2b06e8"), looks := false }, kinds := [], alts := [], laidByText := true, laidKinds := [.data, .data], laidTests := true, laidLooks := .later }
def ModeFormsCardSaid : Prop := Claim7.holds Tryd.pinned (.plain (OpenSpec.ofChange modeFormsSpec)) modeFormsCard

/-- THE TIED CARD OF 'formelaw2.ModeTable'. -/
def modeTableCard : Claim7 := { stood := { row := modeTableRow, standIns := [], harness := (true, "80ad0e909022da46ef22f6986b62450e08313398631889bb5e576635fa2b06e8"), looks := false }, kinds := [], alts := [], laidByText := true, laidKinds := [.data, .data], laidTests := true, laidLooks := .later }
def ModeTableCardSaid : Prop := Claim7.holds Tryd.pinned (.plain (OpenSpec.ofChange modeTableSpec)) modeTableCard

/-- THE TIED CARD OF 'formelaw2.ModeApart'. -/
def modeApartCard : Claim7 := { stood := { row := modeApartRow, standIns := [], harness := (true, "80ad0e909022da46ef22f6986b62450e08313398631889bb5e576635fa2b06e8"), looks := false }, kinds := [], alts := [], laidByText := true, laidKinds := [.data, .data], laidTests := true, laidLooks := .later }
def ModeApartCardSaid : Prop := Claim7.holds Tryd.pinned (.plain (OpenSpec.ofChange modeApartSpec)) modeApartCard

/-- THE TIED CARD OF 'formelaw3.Geoms'. -/
def geomsCard : Claim7 := { stood := { row := geomsRow, standIns := [], harness := (true, "80ad0e909022da46ef22f6986b62450e08313398631889bb5e576635fa2b06e8"), looks := false }, kinds := [], alts := [], laidByText := true, laidKinds := [.data, .data], laidTests := true, laidLooks := .later }
def GeomsCardSaid : Prop := Claim7.holds Tryd.pinned (.plain (OpenSpec.ofChange geomsSpec)) geomsCard

/-- THE SECOND FORM's CARD OF 'formelaw2.Modes'. -/
def modesUptoCard : Claim7 := { stood := { row := modesUptoRow, standIns := [], harness := (true, "80ad0e909022da46ef22f6986b62450e08313398631889bb5e576635fa2b06e8"), looks := false }, kinds := [], alts := [], laidByText := true, laidKinds := [.data, .data], laidTests := true, laidLooks := .later }
def ModesUptoCardSaid : Prop := Claim7.holds Tryd.pinned (.plain (OpenSpec.upto modesSpec)) modesUptoCard

/-- THE SECOND FORM's CARD OF 'formelaw2.ModeSides'. -/
def modeSidesUptoCard : Claim7 := { stood := { row := modeSidesUptoRow, standIns := [], harness := (true, "80ad0e909022da46ef22f6986b62450e08313398631889bb5e576635fa2b06e8"), looks := false }, kinds := [], alts := [], laidByText := true, laidKinds := [.data, .data], laidTests := true, laidLooks := .later }
def ModeSidesUptoCardSaid : Prop := Claim7.holds Tryd.pinned (.plain (OpenSpec.upto modeSidesSpec)) modeSidesUptoCard

/-- THE SECOND FORM's CARD OF 'formelaw2.ModeForms'. -/
def modeFormsUptoCard : Claim7 := { stood := { row := modeFormsUptoRow, standIns := [], harness := (true, "80ad0e909022da46ef22f6986b62450e08313398631889bb5e576635fa2b06e8"), looks := false }, kinds := [], alts := [], laidByText := true, laidKinds := [.data, .data], laidTests := true, laidLooks := .later }
def ModeFormsUptoCardSaid : Prop := Claim7.holds Tryd.pinned (.plain (OpenSpec.upto modeFormsSpec)) modeFormsUptoCard

/-- THE SECOND FORM's CARD OF 'formelaw2.ModeTable'. -/
def modeTableUptoCard : Claim7 := { stood := { row := modeTableUptoRow, standIns := [], harness := (true, "80ad0e909022da46ef22f6986b62450e08313398631889bb5e576635fa2b06e8"), looks := false }, kinds := [], alts := [], laidByText := true, laidKinds := [.data, .data], laidTests := true, laidLooks := .later }
def ModeTableUptoCardSaid : Prop := Claim7.holds Tryd.pinned (.plain (OpenSpec.upto modeTableSpec)) modeTableUptoCard

/-- THE SECOND FORM's CARD OF 'formelaw2.ModeApart'. -/
def modeApartUptoCard : Claim7 := { stood := { row := modeApartUptoRow, standIns := [], harness := (true, "80ad0e909022da46ef22f6986b62450e08313398631889bb5e576635fa2b06e8"), looks := false }, kinds := [], alts := [], laidByText := true, laidKinds := [.data, .data], laidTests := true, laidLooks := .later }
def ModeApartUptoCardSaid : Prop := Claim7.holds Tryd.pinned (.plain (OpenSpec.upto modeApartSpec)) modeApartUptoCard

/-- THE SECOND FORM's CARD OF 'formelaw3.Geoms'. -/
def geomsUptoCard : Claim7 := { stood := { row := geomsUptoRow, standIns := [], harness := (true, "80ad0e909022da46ef22f6986b62450e08313398631889bb5e576635fa2b06e8"), looks := false }, kinds := [], alts := [], laidByText := true, laidKinds := [.data, .data], laidTests := true, laidLooks := .later }
def GeomsUptoCardSaid : Prop := Claim7.holds Tryd.pinned (.plain (OpenSpec.upto geomsSpec)) geomsUptoCard
end Rows
end Go.Proofs.YtkapmnbkmljpkaaDoor
