/-
  DERIVED. GIVEN WITH THE SEED: THE CARDS: each row of YtlhhejgmgagbnaaDoorRows.lean that lists a variable, with what it lists TIED to the program's text (the seventh form; the later family's looks); each row that meets fmt, with fmt's text TOLD by the authors' own Lean function (tested against real Go, not proved from fmt's source: count such statements apart). THE CARD IS WHAT COUNTS. Prove the row's statement (the work); the ties are given (YtlhhejgmgagbnaaDoorTie.lean); close each card by the builder's one call (the guide's Derived/Test/ToyasCard.lean, 'card_holds'). Laid BY PROGRAM, IN A SANDBOX (cutbox-door.mjs). By AI agents, Wed Nov 11 2026. No macro, syntax, notation, axiom, sorry.
-/
import Derived.Test.YtlhhejgmgagbnaaDoorRows
import GoSem.ClaimSeven
namespace Go.Proofs.YtlhhejgmgagbnaaDoor
namespace Rows

/-- THE TIED CARD OF 'formelaw8.Lengths'. -/
def lengthsCard : Claim7 := { stood := { row := lengthsRow, standIns := [], harness := (true, "005f928ebdb1983455b8bee424e2a1a3cd6e3e6172725158e5afb65cd3a54a50"), looks := false }, kinds := [], alts := [], laidByText := true, laidKinds := [.data, .data, .data], laidTests := true, laidLooks := .later }
def LengthsCardSaid : Prop := Claim7.holds Tryd.pinned (.plain (OpenSpec.ofChange lengthsSpec)) lengthsCard

/-- THE TIED CARD OF 'formelaw8.LengthForms'. -/
def lengthFormsCard : Claim7 := { stood := { row := lengthFormsRow, standIns := [], harness := (true, "005f928ebdb1983455b8bee424e2a1a3cd6e3e6172725158e5afb65cd3a54a50"), looks := false }, kinds := [], alts := [], laidByText := true, laidKinds := [.data, .data, .data], laidTests := true, laidLooks := .later }
def LengthFormsCardSaid : Prop := Claim7.holds Tryd.pinned (.plain (OpenSpec.ofChange lengthFormsSpec)) lengthFormsCard

/-- THE TIED CARD OF 'formelaw10.Cascades'. -/
def cascadesCard : Claim7 := { stood := { row := cascadesRow, standIns := [], harness := (true, "005f928ebdb1983455b8bee424e2a1a3cd6e3e6172725158e5afb65cd3a54a50"), looks := false }, kinds := [], alts := [], laidByText := true, laidKinds := [.data, .data, .data, .data, .data, .data], laidTests := true, laidLooks := .later }
def CascadesCardSaid : Prop := Claim7.holds Tryd.pinned (.plain (OpenSpec.ofChange cascadesSpec)) cascadesCard

/-- THE TIED CARD OF 'formelaw10.CascadeLast'. -/
def cascadeLastCard : Claim7 := { stood := { row := cascadeLastRow, standIns := [], harness := (true, "005f928ebdb1983455b8bee424e2a1a3cd6e3e6172725158e5afb65cd3a54a50"), looks := false }, kinds := [], alts := [], laidByText := true, laidKinds := [.data, .data, .data, .data, .data, .data], laidTests := true, laidLooks := .later }
def CascadeLastCardSaid : Prop := Claim7.holds Tryd.pinned (.plain (OpenSpec.ofChange cascadeLastSpec)) cascadeLastCard

/-- THE TIED CARD OF 'formelaw10.CascadeForms'. -/
def cascadeFormsCard : Claim7 := { stood := { row := cascadeFormsRow, standIns := [], harness := (true, "005f928ebdb1983455b8bee424e2a1a3cd6e3e6172725158e5afb65cd3a54a50"), looks := false }, kinds := [], alts := [], laidByText := true, laidKinds := [.data, .data, .data, .data, .data, .data], laidTests := true, laidLooks := .later }
def CascadeFormsCardSaid : Prop := Claim7.holds Tryd.pinned (.plain (OpenSpec.ofChange cascadeFormsSpec)) cascadeFormsCard

/-- THE TIED CARD OF 'formelaw10.CascadeRow'. -/
def cascadeRowCard : Claim7 := { stood := { row := cascadeRowRow, standIns := [], harness := (true, "005f928ebdb1983455b8bee424e2a1a3cd6e3e6172725158e5afb65cd3a54a50"), looks := false }, kinds := [], alts := [], laidByText := true, laidKinds := [.data, .data, .data, .data, .data, .data], laidTests := true, laidLooks := .later }
def CascadeRowCardSaid : Prop := Claim7.holds Tryd.pinned (.plain (OpenSpec.ofChange cascadeRowSpec)) cascadeRowCard

/-- THE TIED CARD OF 'formelaw10.CascadePassed'. -/
def cascadePassedCard : Claim7 := { stood := { row := cascadePassedRow, standIns := [], harness := (true, "005f928ebdb1983455b8bee424e2a1a3cd6e3e6172725158e5afb65cd3a54a50"), looks := false }, kinds := [], alts := [], laidByText := true, laidKinds := [.data, .data, .data, .data, .data, .data], laidTests := true, laidLooks := .later }
def CascadePassedCardSaid : Prop := Claim7.holds Tryd.pinned (.plain (OpenSpec.ofChange cascadePassedSpec)) cascadePassedCard

/-- THE TIED CARD OF 'formelaw10.CascadeOrder'. -/
def cascadeOrderCard : Claim7 := { stood := { row := cascadeOrderRow, standIns := [], harness := (true, "005f928ebdb1983455b8bee424e2a1a3cd6e3e6172725158e5afb65cd3a54a50"), looks := false }, kinds := [], alts := [], laidByText := true, laidKinds := [.data, .data, .data, .data, .data, .data], laidTests := true, laidLooks := .later }
def CascadeOrderCardSaid : Prop := Claim7.holds Tryd.pinned (.plain (OpenSpec.ofChange cascadeOrderSpec)) cascadeOrderCard

/-- THE SECOND FORM's CARD OF 'formelaw8.Lengths'. -/
def lengthsUptoCard : Claim7 := { stood := { row := lengthsUptoRow, standIns := [], harness := (true, "005f928ebdb1983455b8bee424e2a1a3cd6e3e6172725158e5afb65cd3a54a50"), looks := false }, kinds := [], alts := [], laidByText := true, laidKinds := [.data, .data, .data], laidTests := true, laidLooks := .later }
def LengthsUptoCardSaid : Prop := Claim7.holds Tryd.pinned (.plain (OpenSpec.upto lengthsSpec)) lengthsUptoCard

/-- THE SECOND FORM's CARD OF 'formelaw8.LengthForms'. -/
def lengthFormsUptoCard : Claim7 := { stood := { row := lengthFormsUptoRow, standIns := [], harness := (true, "005f928ebdb1983455b8bee424e2a1a3cd6e3e6172725158e5afb65cd3a54a50"), looks := false }, kinds := [], alts := [], laidByText := true, laidKinds := [.data, .data, .data], laidTests := true, laidLooks := .later }
def LengthFormsUptoCardSaid : Prop := Claim7.holds Tryd.pinned (.plain (OpenSpec.upto lengthFormsSpec)) lengthFormsUptoCard

/-- THE SECOND FORM's CARD OF 'formelaw10.Cascades'. -/
def cascadesUptoCard : Claim7 := { stood := { row := cascadesUptoRow, standIns := [], harness := (true, "005f928ebdb1983455b8bee424e2a1a3cd6e3e6172725158e5afb65cd3a54a50"), looks := false }, kinds := [], alts := [], laidByText := true, laidKinds := [.data, .data, .data, .data, .data, .data], laidTests := true, laidLooks := .later }
def CascadesUptoCardSaid : Prop := Claim7.holds Tryd.pinned (.plain (OpenSpec.upto cascadesSpec)) cascadesUptoCard

/-- THE SECOND FORM's CARD OF 'formelaw10.CascadeLast'. -/
def cascadeLastUptoCard : Claim7 := { stood := { row := cascadeLastUptoRow, standIns := [], harness := (true, "005f928ebdb1983455b8bee424e2a1a3cd6e3e6172725158e5afb65cd3a54a50"), looks := false }, kinds := [], alts := [], laidByText := true, laidKinds := [.data, .data, .data, .data, .data, .data], laidTests := true, laidLooks := .later }
def CascadeLastUptoCardSaid : Prop := Claim7.holds Tryd.pinned (.plain (OpenSpec.upto cascadeLastSpec)) cascadeLastUptoCard

/-- THE SECOND FORM's CARD OF 'formelaw10.CascadeForms'. -/
def cascadeFormsUptoCard : Claim7 := { stood := { row := cascadeFormsUptoRow, standIns := [], harness := (true, "005f928ebdb1983455b8bee424e2a1a3cd6e3e6172725158e5afb65cd3a54a50"), looks := false }, kinds := [], alts := [], laidByText := true, laidKinds := [.data, .data, .data, .data, .data, .data], laidTests := true, laidLooks := .later }
def CascadeFormsUptoCardSaid : Prop := Claim7.holds Tryd.pinned (.plain (OpenSpec.upto cascadeFormsSpec)) cascadeFormsUptoCard

/-- THE SECOND FORM's CARD OF 'formelaw10.CascadeRow'. -/
def cascadeRowUptoCard : Claim7 := { stood := { row := cascadeRowUptoRow, standIns := [], harness := (true, "005f928ebdb1983455b8bee424e2a1a3cd6e3e6172725158e5afb65cd3a54a50"), looks := false }, kinds := [], alts := [], laidByText := true, laidKinds := [.data, .data, .data, .data, .data, .data], laidTests := true, laidLooks := .later }
def CascadeRowUptoCardSaid : Prop := Claim7.holds Tryd.pinned (.plain (OpenSpec.upto cascadeRowSpec)) cascadeRowUptoCard

/-- THE SECOND FORM's CARD OF 'formelaw10.CascadePassed'. -/
def cascadePassedUptoCard : Claim7 := { stood := { row := cascadePassedUptoRow, standIns := [], harness := (true, "005f928ebdb1983455b8bee424e2a1a3cd6e3e6172725158e5afb65cd3a54a50"), looks := false }, kinds := [], alts := [], laidByText := true, laidKinds := [.data, .data, .data, .data, .data, .data], laidTests := true, laidLooks := .later }
def CascadePassedUptoCardSaid : Prop := Claim7.holds Tryd.pinned (.plain (OpenSpec.upto cascadePassedSpec)) cascadePassedUptoCard

/-- THE SECOND FORM's CARD OF 'formelaw10.CascadeOrder'. -/
def cascadeOrderUptoCard : Claim7 := { stood := { row := cascadeOrderUptoRow, standIns := [], harness := (true, "005f928ebdb1983455b8bee424e2a1a3cd6e3e6172725158e5afb65cd3a54a50"), looks := false }, kinds := [], alts := [], laidByText := true, laidKinds := [.data, .data, .data, .data, .data, .data], laidTests := true, laidLooks := .later }
def CascadeOrderUptoCardSaid : Prop := Claim7.holds Tryd.pinned (.plain (OpenSpec.upto cascadeOrderSpec)) cascadeOrderUptoCard
end Rows
end Go.Proofs.YtlhhejgmgagbnaaDoor
