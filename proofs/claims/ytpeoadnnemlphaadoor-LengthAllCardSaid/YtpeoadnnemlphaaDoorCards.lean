/-
  DERIVED. GIVEN WITH THE SEED: THE CARDS: each row of YtpeoadnnemlphaaDoorRows.lean that lists a variable, with what it lists TIED to the program's text (the seventh form; the later family's looks); each row that meets fmt, with fmt's text TOLD by the authors' own Lean function (tested against real Go, not proved from fmt's source: count such statements apart). THE CARD IS WHAT COUNTS. Prove the row's statement (the work); the ties are given (YtpeoadnnemlphaaDoorTie.lean); close each card by the builder's one call (the guide's Derived/Test/ToyasCard.lean, 'card_holds'). Laid BY PROGRAM, IN A SANDBOX (cutbox-door.mjs). By AI agents, Wed Nov 11 2026. No macro, syntax, notation, axiom, sorry.
-/
import Derived.Test.YtpeoadnnemlphaaDoorRows
import GoSem.ClaimSeven
namespace Go.Proofs.YtpeoadnnemlphaaDoor
namespace Rows

/-- THE TIED CARD OF 'formelaw8.Lengths'. -/
def lengthsCard : Claim7 := { stood := { row := lengthsRow, standIns := [], harness := (true, "92b1b20b107b817f38108b281d8b78d278b68ae9e6ef126c3bb48949c774cd05"), looks := false }, kinds := [], alts := [], laidByText := true, laidKinds := [.data, .data, .data], laidTests := true, laidLooks := .later }
def LengthsCardSaid : Prop := Claim7.holds Tryd.pinned (.plain (OpenSpec.ofChange lengthsSpec)) lengthsCard

/-- THE TIED CARD OF 'formelaw8.LengthBack'. -/
def lengthBackCard : Claim7 := { stood := { row := lengthBackRow, standIns := [], harness := (true, "92b1b20b107b817f38108b281d8b78d278b68ae9e6ef126c3bb48949c774cd05"), looks := false }, kinds := [], alts := [], laidByText := true, laidKinds := [.data, .data, .data], laidTests := true, laidLooks := .later }
def LengthBackCardSaid : Prop := Claim7.holds Tryd.pinned (.plain (OpenSpec.ofChange lengthBackSpec)) lengthBackCard

/-- THE TIED CARD OF 'formelaw8.LengthForms'. -/
def lengthFormsCard : Claim7 := { stood := { row := lengthFormsRow, standIns := [], harness := (true, "92b1b20b107b817f38108b281d8b78d278b68ae9e6ef126c3bb48949c774cd05"), looks := false }, kinds := [], alts := [], laidByText := true, laidKinds := [.data, .data, .data], laidTests := true, laidLooks := .later }
def LengthFormsCardSaid : Prop := Claim7.holds Tryd.pinned (.plain (OpenSpec.ofChange lengthFormsSpec)) lengthFormsCard

/-- THE TIED CARD OF 'formelaw8.LengthAll'. -/
def lengthAllCard : Claim7 := { stood := { row := lengthAllRow, standIns := [], harness := (true, "92b1b20b107b817f38108b281d8b78d278b68ae9e6ef126c3bb48949c774cd05"), looks := false }, kinds := [], alts := [], laidByText := true, laidKinds := [.data, .data, .data], laidTests := true, laidLooks := .later }
def LengthAllCardSaid : Prop := Claim7.holds Tryd.pinned (.plain (OpenSpec.ofChange lengthAllSpec)) lengthAllCard

/-- THE TIED CARD OF 'formelaw23.Frags'. -/
def fragsCard : Claim7 := { stood := { row := fragsRow, standIns := [], harness := (true, "92b1b20b107b817f38108b281d8b78d278b68ae9e6ef126c3bb48949c774cd05"), looks := false }, kinds := [], alts := [], laidByText := true, laidKinds := [.data, .data], laidTests := true, laidLooks := .later }
def FragsCardSaid : Prop := Claim7.holds Tryd.pinned (.plain (OpenSpec.ofChange fragsSpec)) fragsCard

/-- THE TIED CARD OF 'formelaw23.FragBack'. -/
def fragBackCard : Claim7 := { stood := { row := fragBackRow, standIns := [], harness := (true, "92b1b20b107b817f38108b281d8b78d278b68ae9e6ef126c3bb48949c774cd05"), looks := false }, kinds := [], alts := [], laidByText := true, laidKinds := [.data, .data], laidTests := true, laidLooks := .later }
def FragBackCardSaid : Prop := Claim7.holds Tryd.pinned (.plain (OpenSpec.ofChange fragBackSpec)) fragBackCard

/-- THE TIED CARD OF 'formelaw23.FragForms'. -/
def fragFormsCard : Claim7 := { stood := { row := fragFormsRow, standIns := [], harness := (true, "92b1b20b107b817f38108b281d8b78d278b68ae9e6ef126c3bb48949c774cd05"), looks := false }, kinds := [], alts := [], laidByText := true, laidKinds := [.data, .data], laidTests := true, laidLooks := .later }
def FragFormsCardSaid : Prop := Claim7.holds Tryd.pinned (.plain (OpenSpec.ofChange fragFormsSpec)) fragFormsCard

/-- THE TIED CARD OF 'formelaw23.FragRow'. -/
def fragRowCard : Claim7 := { stood := { row := fragRowRow, standIns := [], harness := (true, "92b1b20b107b817f38108b281d8b78d278b68ae9e6ef126c3bb48949c774cd05"), looks := false }, kinds := [], alts := [], laidByText := true, laidKinds := [.data, .data], laidTests := true, laidLooks := .later }
def FragRowCardSaid : Prop := Claim7.holds Tryd.pinned (.plain (OpenSpec.ofChange fragRowSpec)) fragRowCard

/-- THE SECOND FORM's CARD OF 'formelaw8.Lengths'. -/
def lengthsUptoCard : Claim7 := { stood := { row := lengthsUptoRow, standIns := [], harness := (true, "92b1b20b107b817f38108b281d8b78d278b68ae9e6ef126c3bb48949c774cd05"), looks := false }, kinds := [], alts := [], laidByText := true, laidKinds := [.data, .data, .data], laidTests := true, laidLooks := .later }
def LengthsUptoCardSaid : Prop := Claim7.holds Tryd.pinned (.plain (OpenSpec.upto lengthsSpec)) lengthsUptoCard

/-- THE SECOND FORM's CARD OF 'formelaw8.LengthBack'. -/
def lengthBackUptoCard : Claim7 := { stood := { row := lengthBackUptoRow, standIns := [], harness := (true, "92b1b20b107b817f38108b281d8b78d278b68ae9e6ef126c3bb48949c774cd05"), looks := false }, kinds := [], alts := [], laidByText := true, laidKinds := [.data, .data, .data], laidTests := true, laidLooks := .later }
def LengthBackUptoCardSaid : Prop := Claim7.holds Tryd.pinned (.plain (OpenSpec.upto lengthBackSpec)) lengthBackUptoCard

/-- THE SECOND FORM's CARD OF 'formelaw8.LengthForms'. -/
def lengthFormsUptoCard : Claim7 := { stood := { row := lengthFormsUptoRow, standIns := [], harness := (true, "92b1b20b107b817f38108b281d8b78d278b68ae9e6ef126c3bb48949c774cd05"), looks := false }, kinds := [], alts := [], laidByText := true, laidKinds := [.data, .data, .data], laidTests := true, laidLooks := .later }
def LengthFormsUptoCardSaid : Prop := Claim7.holds Tryd.pinned (.plain (OpenSpec.upto lengthFormsSpec)) lengthFormsUptoCard

/-- THE SECOND FORM's CARD OF 'formelaw8.LengthAll'. -/
def lengthAllUptoCard : Claim7 := { stood := { row := lengthAllUptoRow, standIns := [], harness := (true, "92b1b20b107b817f38108b281d8b78d278b68ae9e6ef126c3bb48949c774cd05"), looks := false }, kinds := [], alts := [], laidByText := true, laidKinds := [.data, .data, .data], laidTests := true, laidLooks := .later }
def LengthAllUptoCardSaid : Prop := Claim7.holds Tryd.pinned (.plain (OpenSpec.upto lengthAllSpec)) lengthAllUptoCard

/-- THE SECOND FORM's CARD OF 'formelaw23.Frags'. -/
def fragsUptoCard : Claim7 := { stood := { row := fragsUptoRow, standIns := [], harness := (true, "92b1b20b107b817f38108b281d8b78d278b68ae9e6ef126c3bb48949c774cd05"), looks := false }, kinds := [], alts := [], laidByText := true, laidKinds := [.data, .data], laidTests := true, laidLooks := .later }
def FragsUptoCardSaid : Prop := Claim7.holds Tryd.pinned (.plain (OpenSpec.upto fragsSpec)) fragsUptoCard

/-- THE SECOND FORM's CARD OF 'formelaw23.FragBack'. -/
def fragBackUptoCard : Claim7 := { stood := { row := fragBackUptoRow, standIns := [], harness := (true, "92b1b20b107b817f38108b281d8b78d278b68ae9e6ef126c3bb48949c774cd05"), looks := false }, kinds := [], alts := [], laidByText := true, laidKinds := [.data, .data], laidTests := true, laidLooks := .later }
def FragBackUptoCardSaid : Prop := Claim7.holds Tryd.pinned (.plain (OpenSpec.upto fragBackSpec)) fragBackUptoCard

/-- THE SECOND FORM's CARD OF 'formelaw23.FragForms'. -/
def fragFormsUptoCard : Claim7 := { stood := { row := fragFormsUptoRow, standIns := [], harness := (true, "92b1b20b107b817f38108b281d8b78d278b68ae9e6ef126c3bb48949c774cd05"), looks := false }, kinds := [], alts := [], laidByText := true, laidKinds := [.data, .data], laidTests := true, laidLooks := .later }
def FragFormsUptoCardSaid : Prop := Claim7.holds Tryd.pinned (.plain (OpenSpec.upto fragFormsSpec)) fragFormsUptoCard

/-- THE SECOND FORM's CARD OF 'formelaw23.FragRow'. -/
def fragRowUptoCard : Claim7 := { stood := { row := fragRowUptoRow, standIns := [], harness := (true, "92b1b20b107b817f38108b281d8b78d278b68ae9e6ef126c3bb48949c774cd05"), looks := false }, kinds := [], alts := [], laidByText := true, laidKinds := [.data, .data], laidTests := true, laidLooks := .later }
def FragRowUptoCardSaid : Prop := Claim7.holds Tryd.pinned (.plain (OpenSpec.upto fragRowSpec)) fragRowUptoCard
end Rows
end Go.Proofs.YtpeoadnnemlphaaDoor
