/-
  DERIVED. GIVEN WITH THE SEED: THE CARDS: each row of YtbjkphelkfeliaaDoorRows.lean that lists a variable, with what it lists TIED to the program's text (the seventh form; the later family's looks); each row that meets fmt, with fmt's text TOLD by the authors' own Lean function (tested against real Go, not proved from fmt's source: count such statements apart). THE CARD IS WHAT COUNTS. Prove the row's statement (the work); the ties are given (YtbjkphelkfeliaaDoorTie.lean); close each card by the builder's one call (the guide's Derived/Test/ToyasCard.lean, 'card_holds'). Laid BY PROGRAM, IN A SANDBOX (cutbox-door.mjs). By AI agents, Wed Nov 11 2026. No macro, syntax, notation, axiom, sorry.
-/
import Derived.Test.YtbjkphelkfeliaaDoorRows
import GoSem.ClaimSeven
namespace Go.Proofs.YtbjkphelkfeliaaDoor
namespace Rows

/-- THE TIED CARD OF 'formelaw3.Geoms'. -/
def geomsCard : Claim7 := { stood := { row := geomsRow, standIns := [], harness := (true, "891a8ebb5468964b9c7b45140451c02e21e423e6839a5b259245ff2d192cce94"), looks := false }, kinds := [], alts := [], laidByText := true, laidKinds := [.data, .data], laidTests := true, laidLooks := .later }
def GeomsCardSaid : Prop := Claim7.holds Tryd.pinned (.plain (OpenSpec.ofChange geomsSpec)) geomsCard

/-- THE TIED CARD OF 'formelaw3.GeomBack'. -/
def geomBackCard : Claim7 := { stood := { row := geomBackRow, standIns := [], harness := (true, "891a8ebb5468964b9c7b45140451c02e21e423e6839a5b259245ff2d192cce94"), looks := false }, kinds := [], alts := [], laidByText := true, laidKinds := [.data, .data], laidTests := true, laidLooks := .later }
def GeomBackCardSaid : Prop := Claim7.holds Tryd.pinned (.plain (OpenSpec.ofChange geomBackSpec)) geomBackCard

/-- THE TIED CARD OF 'formelaw3.GeomForms'. -/
def geomFormsCard : Claim7 := { stood := { row := geomFormsRow, standIns := [], harness := (true, "891a8ebb5468964b9c7b45140451c02e21e423e6839a5b259245ff2d192cce94"), looks := false }, kinds := [], alts := [], laidByText := true, laidKinds := [.data, .data], laidTests := true, laidLooks := .later }
def GeomFormsCardSaid : Prop := Claim7.holds Tryd.pinned (.plain (OpenSpec.ofChange geomFormsSpec)) geomFormsCard

/-- THE TIED CARD OF 'formelaw3.GeomTable'. -/
def geomTableCard : Claim7 := { stood := { row := geomTableRow, standIns := [], harness := (true, "891a8ebb5468964b9c7b45140451c02e21e423e6839a5b259245ff2d192cce94"), looks := false }, kinds := [], alts := [], laidByText := true, laidKinds := [.data, .data], laidTests := true, laidLooks := .later }
def GeomTableCardSaid : Prop := Claim7.holds Tryd.pinned (.plain (OpenSpec.ofChange geomTableSpec)) geomTableCard

/-- THE TIED CARD OF 'formelaw3.GeomMoves'. -/
def geomMovesCard : Claim7 := { stood := { row := geomMovesRow, standIns := [], harness := (true, "891a8ebb5468964b9c7b45140451c02e21e423e6839a5b259245ff2d192cce94"), looks := false }, kinds := [], alts := [], laidByText := true, laidKinds := [.data, .data], laidTests := true, laidLooks := .later }
def GeomMovesCardSaid : Prop := Claim7.holds Tryd.pinned (.plain (OpenSpec.ofChange geomMovesSpec)) geomMovesCard

/-- THE SECOND FORM's CARD OF 'formelaw3.Geoms'. -/
def geomsUptoCard : Claim7 := { stood := { row := geomsUptoRow, standIns := [], harness := (true, "891a8ebb5468964b9c7b45140451c02e21e423e6839a5b259245ff2d192cce94"), looks := false }, kinds := [], alts := [], laidByText := true, laidKinds := [.data, .data], laidTests := true, laidLooks := .later }
def GeomsUptoCardSaid : Prop := Claim7.holds Tryd.pinned (.plain (OpenSpec.upto geomsSpec)) geomsUptoCard

/-- THE SECOND FORM's CARD OF 'formelaw3.GeomBack'. -/
def geomBackUptoCard : Claim7 := { stood := { row := geomBackUptoRow, standIns := [], harness := (true, "891a8ebb5468964b9c7b45140451c02e21e423e6839a5b259245ff2d192cce94"), looks := false }, kinds := [], alts := [], laidByText := true, laidKinds := [.data, .data], laidTests := true, laidLooks := .later }
def GeomBackUptoCardSaid : Prop := Claim7.holds Tryd.pinned (.plain (OpenSpec.upto geomBackSpec)) geomBackUptoCard

/-- THE SECOND FORM's CARD OF 'formelaw3.GeomForms'. -/
def geomFormsUptoCard : Claim7 := { stood := { row := geomFormsUptoRow, standIns := [], harness := (true, "891a8ebb5468964b9c7b45140451c02e21e423e6839a5b259245ff2d192cce94"), looks := false }, kinds := [], alts := [], laidByText := true, laidKinds := [.data, .data], laidTests := true, laidLooks := .later }
def GeomFormsUptoCardSaid : Prop := Claim7.holds Tryd.pinned (.plain (OpenSpec.upto geomFormsSpec)) geomFormsUptoCard

/-- THE SECOND FORM's CARD OF 'formelaw3.GeomTable'. -/
def geomTableUptoCard : Claim7 := { stood := { row := geomTableUptoRow, standIns := [], harness := (true, "891a8ebb5468964b9c7b45140451c02e21e423e6839a5b259245ff2d192cce94"), looks := false }, kinds := [], alts := [], laidByText := true, laidKinds := [.data, .data], laidTests := true, laidLooks := .later }
def GeomTableUptoCardSaid : Prop := Claim7.holds Tryd.pinned (.plain (OpenSpec.upto geomTableSpec)) geomTableUptoCard

/-- THE SECOND FORM's CARD OF 'formelaw3.GeomMoves'. -/
def geomMovesUptoCard : Claim7 := { stood := { row := geomMovesUptoRow, standIns := [], harness := (true, "891a8ebb5468964b9c7b45140451c02e21e423e6839a5b259245ff2d192cce94"), looks := false }, kinds := [], alts := [], laidByText := true, laidKinds := [.data, .data], laidTests := true, laidLooks := .later }
def GeomMovesUptoCardSaid : Prop := Claim7.holds Tryd.pinned (.plain (OpenSpec.upto geomMovesSpec)) geomMovesUptoCard
end Rows
end Go.Proofs.YtbjkphelkfeliaaDoor
