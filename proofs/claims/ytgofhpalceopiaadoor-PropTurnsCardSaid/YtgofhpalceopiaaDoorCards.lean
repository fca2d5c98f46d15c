/-
  DERIVED. GIVEN WITH THE SEED: THE CARDS: each row of YtgofhpalceopiaaDoorRows.lean that lists a variable, with what it lists TIED to the program's text (the seventh form; the later family's looks); each row that meets fmt, with fmt's text TOLD by the authors' own Lean function (tested against real Go, not proved from fmt's source: count such statements apart). THE CARD IS WHAT COUNTS. Prove the row's statement (the work); the ties are given (YtgofhpalceopiaaDoorTie.lean); close each card by the builder's one call (the guide's Derived/Test/ToyasCard.lean, 'card_holds'). Laid BY PROGRAM, IN A SANDBOX (cutbox-door.mjs). By AI agents, Wed Nov 11 2026. No macro, syntax, notation, axiom, sorry.
-/
import Derived.Test.YtgofhpalceopiaaDoorRows
import GoSem.ClaimSeven
namespace Go.Proofs.YtgofhpalceopiaaDoor
namespace Rows

/-- THE TIED CARD OF 'formelaw9.Props'. -/
def propsCard : Claim7 := { stood := { row := propsRow, standIns := [], harness := (true, "eb374514f1be041cf00fe10871000b584d4387a0cbe646e52f3fc487b46b9984"), looks := false }, kinds := [], alts := [], laidByText := true, laidKinds := [.data, .data, .data], laidTests := true, laidLooks := .later }
def PropsCardSaid : Prop := Claim7.holds Tryd.pinned (.plain (OpenSpec.ofChange propsSpec)) propsCard

/-- THE TIED CARD OF 'formelaw9.PropOne'. -/
def propOneCard : Claim7 := { stood := { row := propOneRow, standIns := [], harness := (true, "eb374514f1be041cf00fe10871000b584d4387a0cbe646e52f3fc487b46b9984"), looks := false }, kinds := [], alts := [], laidByText := true, laidKinds := [.data, .data, .data], laidTests := true, laidLooks := .later }
def PropOneCardSaid : Prop := Claim7.holds Tryd.pinned (.plain (OpenSpec.ofChange propOneSpec)) propOneCard

/-- THE TIED CARD OF 'formelaw9.PropForms'. -/
def propFormsCard : Claim7 := { stood := { row := propFormsRow, standIns := [], harness := (true, "eb374514f1be041cf00fe10871000b584d4387a0cbe646e52f3fc487b46b9984"), looks := false }, kinds := [], alts := [], laidByText := true, laidKinds := [.data, .data, .data], laidTests := true, laidLooks := .later }
def PropFormsCardSaid : Prop := Claim7.holds Tryd.pinned (.plain (OpenSpec.ofChange propFormsSpec)) propFormsCard

/-- THE TIED CARD OF 'formelaw9.PropTurns'. -/
def propTurnsCard : Claim7 := { stood := { row := propTurnsRow, standIns := [], harness := (true, "eb374514f1be041cf00fe10871000b584d4387a0cbe646e52f3fc487b46b9984"), looks := false }, kinds := [], alts := [], laidByText := true, laidKinds := [.data, .data, .data], laidTests := true, laidLooks := .later }
def PropTurnsCardSaid : Prop := Claim7.holds Tryd.pinned (.plain (OpenSpec.ofChange propTurnsSpec)) propTurnsCard

/-- THE TIED CARD OF 'formelaw9.PropEdges'. -/
def propEdgesCard : Claim7 := { stood := { row := propEdgesRow, standIns := [], harness := (true, "eb374514f1be041cf00fe10871000b584d4387a0cbe646e52f3fc487b46b9984"), looks := false }, kinds := [], alts := [], laidByText := true, laidKinds := [.data, .data, .data], laidTests := true, laidLooks := .later }
def PropEdgesCardSaid : Prop := Claim7.holds Tryd.pinned (.plain (OpenSpec.ofChange propEdgesSpec)) propEdgesCard

/-- THE SECOND FORM's CARD OF 'formelaw9.Props'. -/
def propsUptoCard : Claim7 := { stood := { row := propsUptoRow, standIns := [], harness := (true, "eb374514f1be041cf00fe10871000b584d4387a0cbe646e52f3fc487b46b9984"), looks := false }, kinds := [], alts := [], laidByText := true, laidKinds := [.data, .data, .data], laidTests := true, laidLooks := .later }
def PropsUptoCardSaid : Prop := Claim7.holds Tryd.pinned (.plain (OpenSpec.upto propsSpec)) propsUptoCard

/-- THE SECOND FORM's CARD OF 'formelaw9.PropOne'. -/
def propOneUptoCard : Claim7 := { stood := { row := propOneUptoRow, standIns := [], harness := (true, "eb374514f1be041cf00fe10871000b584d4387a0cbe646e52f3fc487b46b9984"), looks := false }, kinds := [], alts := [], laidByText := true, laidKinds := [.data, .data, .data], laidTests := true, laidLooks := .later }
def PropOneUptoCardSaid : Prop := Claim7.holds Tryd.pinned (.plain (OpenSpec.upto propOneSpec)) propOneUptoCard

/-- THE SECOND FORM's CARD OF 'formelaw9.PropForms'. -/
def propFormsUptoCard : Claim7 := { stood := { row := propFormsUptoRow, standIns := [], harness := (true, "eb374514f1be041cf00fe10871000b584d4387a0cbe646e52f3fc487b46b9984"), looks := false }, kinds := [], alts := [], laidByText := true, laidKinds := [.data, .data, .data], laidTests := true, laidLooks := .later }
def PropFormsUptoCardSaid : Prop := Claim7.holds Tryd.pinned (.plain (OpenSpec.upto propFormsSpec)) propFormsUptoCard

/-- THE SECOND FORM's CARD OF 'formelaw9.PropTurns'. -/
def propTurnsUptoCard : Claim7 := { stood := { row := propTurnsUptoRow, standIns := [], harness := (true, "eb374514f1be041cf00fe10871000b584d4387a0cbe646e52f3fc487b46b9984"), looks := false }, kinds := [], alts := [], laidByText := true, laidKinds := [.data, .data, .data], laidTests := true, laidLooks := .later }
def PropTurnsUptoCardSaid : Prop := Claim7.holds Tryd.pinned (.plain (OpenSpec.upto propTurnsSpec)) propTurnsUptoCard

/-- THE SECOND FORM's CARD OF 'formelaw9.PropEdges'. -/
def propEdgesUptoCard : Claim7 := { stood := { row := propEdgesUptoRow, standIns := [], harness := (true, "eb374514f1be041cf00fe10871000b584d4387a0cbe646e52f3fc487b46b9984"), looks := false }, kinds := [], alts := [], laidByText := true, laidKinds := [.data, .data, .data], laidTests := true, laidLooks := .later }
def PropEdgesUptoCardSaid : Prop := Claim7.holds Tryd.pinned (.plain (OpenSpec.upto propEdgesSpec)) propEdgesUptoCard
end Rows
end Go.Proofs.YtgofhpalceopiaaDoor
