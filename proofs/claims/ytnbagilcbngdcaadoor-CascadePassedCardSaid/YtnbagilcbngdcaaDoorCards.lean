/-
  DERIVED. GIVEN WITH THE SEED: THE CARDS: each row of YtnbagilcbngdcaaDoorRows.lean that lists a variable, with what it lists TIED to the program's text (the seventh form; the later family's looks); each row that meets fmt, with fmt's text TOLD by the authors' own Lean function (tested against real Go, not proved from fmt's source: count such statements apart). THE CARD IS WHAT COUNTS. Prove the row's statement (the work); the ties are given (YtnbagilcbngdcaaDoorTie.lean); close each card by the builder's one call (the guide's Derived/Test/ToyasCard.lean, 'card_holds'). Laid BY PROGRAM, IN A SANDBOX (cutbox-door.mjs). By AI agents, Wed Nov 11 2026. No macro, syntax, notation, axiom, sorry.
-/
import Derived.Test.YtnbagilcbngdcaaDoorRows
import GoSem.ClaimSeven
namespace Go.Proofs.YtnbagilcbngdcaaDoor
namespace Rows

/-- THE TIED CARD OF 'formelaw8.LengthBack'. -/
def lengthBackCard : Claim7 := { stood := { row := lengthBackRow, standIns := [], harness := (true, "f8c7adac9387ef398d6d08d0ac27746ca5d1c368eff1d1d3334e77c7bb2f08da"), looks := false }, kinds := [], alts := [], laidByText := true, laidKinds := [.data, .data, .data], laidTests := true, laidLooks := .later }
def LengthBackCardSaid : Prop := Claim7.holds Tryd.pinned (.plain (OpenSpec.ofChange lengthBackSpec)) lengthBackCard

/-- THE TIED CARD OF 'formelaw8.LengthAll'. -/
def lengthAllCard : Claim7 := { stood := { row := lengthAllRow, standIns := [], harness := (true, "f8c7adac9387ef398d6d08d0ac27746ca5d1c368eff1d1d3334e77c7bb2f08da"), looks := false }, kinds := [], alts := [], laidByText := true, laidKinds := [.data, .data, .data], laidTests := true, laidLooks := .later }
def LengthAllCardSaid : Prop := Claim7.holds Tryd.pinned (.plain (OpenSpec.ofChange lengthAllSpec)) lengthAllCard

/-- THE TIED CARD OF 'formelaw10.Cascades'. -/
def cascadesCard : Claim7 := { stood := { row := cascadesRow, standIns := [], harness := (true, "f8c7adac9387ef398d6d08d0ac27746ca5d1c368eff1d1d3334e77c7bb2f08da"), looks := false }, kinds := [], alts := [], laidByText := true, laidKinds := [.data, .data, .data, .data, .data, .data], laidTests := true, laidLooks := .later }
def CascadesCardSaid : Prop := Claim7.holds Tryd.pinned (.plain (OpenSpec.ofChange cascadesSpec)) cascadesCard

/-- THE TIED CARD OF 'formelaw10.CascadeLast'. -/
def cascadeLastCard : Claim7 := { stood := { row := cascadeLastRow, standIns := [], harness := (true, "f8c7adac9387ef398d6d08d0ac27746ca5d1c368eff1d1d3334e77c7bb2f08da"), looks := false }, kinds := [], alts := [], laidByText := true, laidKinds := [.data, .data, .data, .data, .data, .data], laidTests := true, laidLooks := .later }
def CascadeLastCardSaid : Prop := Claim7.holds Tryd.pinned (.plain (OpenSpec.ofChange cascadeLastSpec)) cascadeLastCard

/-- THE TIED CARD OF 'formelaw10.CascadeForms'. -/
def cascadeFormsCard : Claim7 := { stood := { row := cascadeFormsRow, standIns := [], harness := (true, "f8c7adac9387ef398d6d08d0ac27746ca5d1c368eff1d1d3334e77c7bb2f08da"), looks := false }, kinds := [], alts := [], laidByText := true, laidKinds := [.data, .data, .data, .data, .data, .data], laidTests := true, laidLooks := .later }
def CascadeFormsCardSaid : Prop := Claim7.holds Tryd.pinned (.plain (OpenSpec.ofChange cascadeFormsSpec)) cascadeFormsCard

/-- THE TIED CARD OF 'formelaw10.CascadeRow'. -/
def cascadeRowCard : Claim7 := { stood := { row := cascadeRowRow, standIns := [], harness := (true, "f8c7adac9387ef398d6d08d0ac27746ca5d1c368eff1d1d3334e77c7bb2f08da"), looks := false }, kinds := [], alts := [], laidByText := true, laidKinds := [.data, .data, .data, .data, .data, .data], laidTests := true, laidLooks := .later }
def CascadeRowCardSaid : Prop := Claim7.holds Tryd.pinned (.plain (OpenSpec.ofChange cascadeRowSpec)) cascadeRowCard

/-- THE TIED CARD OF 'formelaw10.CascadePassed'. -/
def cascadePassedCard : Claim7 := { stood := { row := cascadePassedRow, standIns := [], harness := (true, "f8c7adac9387ef398d6d08d0ac27746ca5d1c368eff1d1d3334e77c7bb2f08da"), looks := false }, kinds := [], alts := [], laidByText := true, laidKinds := [.data, .data, .data, .data, .data, .data], laidTests := true, laidLooks := .later }
def CascadePassedCardSaid : Prop := Claim7.holds Tryd.pinned (.plain (OpenSpec.ofChange cascadePassedSpec)) cascadePassedCard

/-- THE TIED CARD OF 'formelaw10.CascadeOrder'. -/
def cascadeOrderCard : Claim7 := { stood := { row := cascadeOrderRow, standIns := [], harness := (true, "f8c7adac9387ef398d6d08d0ac27746ca5d1c368eff1d1d3334e77c7bb2f08da"), looks := false }, kinds := [], alts := [], laidByText := true, laidKinds := [.data, .data, .data, .data, .data, .data], laidTests := true, laidLooks := .later }
def CascadeOrderCardSaid : Prop := Claim7.holds Tryd.pinned (.plain (OpenSpec.ofChange cascadeOrderSpec)) cascadeOrderCard

/-- THE SECOND FORM's CARD OF 'formelaw8.LengthBack'. -/
def lengthBackUptoCard : Claim7 := { stood := { row := lengthBackUptoRow, standIns := [], harness := (true, "f8c7adac9387ef398d6d08d0ac27746ca5d1c368eff1d1d3334e77c7bb2f08da"), looks := false }, kinds := [], alts := [], laidByText := true, laidKinds := [.data, .data, .data], laidTests := true, laidLooks := .later }
def LengthBackUptoCardSaid : Prop := Claim7.holds Tryd.pinned (.plain (OpenSpec.upto lengthBackSpec)) lengthBackUptoCard

/-- THE SECOND FORM's CARD OF 'formelaw8.LengthAll'. -/
def lengthAllUptoCard : Claim7 := { stood := { row := lengthAllUptoRow, standIns := [], harness := (true, "f8c7adac9387ef398d6d08d0ac27746ca5d1c368eff1d1d3334e77c7bb2f08da"), looks := false }, kinds := [], alts := [], laidByText := true, laidKinds := [.data, .data, .data], laidTests := true, laidLooks := .later }
def LengthAllUptoCardSaid : Prop := Claim7.holds Tryd.pinned (.plain (OpenSpec.upto lengthAllSpec)) lengthAllUptoCard

/-- THE SECOND FORM's CARD OF 'formelaw10.Cascades'. -/
def cascadesUptoCard : Claim7 := { stood := { row := cascadesUptoRow, standIns := [], harness := (true, "f8c7adac9387ef398d6d08d0ac27746ca5d1c368eff1d1d3334e77c7bb2f08da"), looks := false }, kinds := [], alts := [], laidByText := true, laidKinds := [.data, .data, .data, .data, .data, .data], laidTests := true, laidLooks := .later }
def CascadesUptoCardSaid : Prop := Claim7.holds Tryd.pinned (.plain (OpenSpec.upto cascadesSpec)) cascadesUptoCard

/-- THE SECOND FORM's CARD OF 'formelaw10.CascadeLast'. -/
def cascadeLastUptoCard : Claim7 := { stood := { row := cascadeLastUptoRow, standIns := [], harness := (true, "f8c7adac9387ef398d6d08d0ac27746ca5d1c368eff1d1d3334e77c7bb2f08da"), looks := false }, kinds := [], alts := [], laidByText := true, laidKinds := [.data, .data, .data, .data, .data, .data], laidTests := true, laidLooks := .later }
def CascadeLastUptoCardSaid : Prop := Claim7.holds Tryd.pinned (.plain (OpenSpec.upto cascadeLastSpec)) cascadeLastUptoCard

/-- THE SECOND FORM's CARD OF 'formelaw10.CascadeForms'. -/
def cascadeFormsUptoCard : Claim7 := { stood := { row := cascadeFormsUptoRow, standIns := [], harness := (true, "f8c7adac9387ef398d6d08d0ac27746ca5d1c368eff1d1d3334e77c7bb2f08da"), looks := false }, kinds := [], alts := [], laidByText := true, laidKinds := [.data, .data, .data, .data, .data, .data], laidTests := true, laidLooks := .later }
def CascadeFormsUptoCardSaid : Prop := Claim7.holds Tryd.pinned (.plain (OpenSpec.upto cascadeFormsSpec)) cascadeFormsUptoCard

/-- THE SECOND FORM's CARD OF 'formelaw10.CascadeRow'. -/
def cascadeRowUptoCard : Claim7 := { stood := { row := cascadeRowUptoRow, standIns := [], harness := (true, "f8c7adac9387ef398d6d08d0ac27746ca5d1c368eff1d1d3334e77c7bb2f08da"), looks := false }, kinds := [], alts := [], laidByText := true, laidKinds := [.data, .data, .data, .data, .data, .data], laidTests := true, laidLooks := .later }
def CascadeRowUptoCardSaid : Prop := Claim7.holds Tryd.pinned (.plain (OpenSpec.upto cascadeRowSpec)) cascadeRowUptoCard

/-- THE SECOND FORM's CARD OF 'formelaw10.CascadePassed'. -/
def cascadePassedUptoCard : Claim7 := { stood := { row := cascadePassedUptoRow, standIns := [], harness := (true, "f8c7adac9387ef398d6d08d0ac27746ca5d1c368eff1d1d3334e77c7bb2f08da"), looks := false }, kinds := [], alts := [], laidByText := true, laidKinds := [.data, .data, .data, .data, .data, .data], laidTests := true, laidLooks := .later }
def CascadePassedUptoCardSaid : Prop := Claim7.holds Tryd.pinned (.plain (OpenSpec.upto cascadePassedSpec)) cascadePassedUptoCard

/-- THE SECOND FORM's CARD OF 'formelaw10.CascadeOrder'. -/
def cascadeOrderUptoCard : Claim7 := { stood := { row := cascadeOrderUptoRow, standIns := [], harness := (true, "f8c7adac9387ef398d6d08d0ac27746ca5d1c368eff1d1d3334e77c7bb2f08da"), looks := false }, kinds := [], alts := [], laidByText := true, laidKinds := [.data, .data, .data, .data, .data, .data], laidTests := true, laidLooks := .later }
def CascadeOrderUptoCardSaid : Prop := Claim7.holds Tryd.pinned (.plain (OpenSpec.upto cascadeOrderSpec)) cascadeOrderUptoCard
end Rows
end Go.Proofs.YtnbagilcbngdcaaDoor
