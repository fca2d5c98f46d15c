/-
  DERIVED. GIVEN WITH THE SEED: THE CARDS: each row of YtpblajjfgnhkdaaDoorRows.lean that lists a variable, with what it lists TIED to the program's text (the seventh form; the later family's looks); each row that meets fmt, with fmt's text TOLD by the authors' own Lean function (tested against real Go, not proved from fmt's source: count such statements apart). THE CARD IS WHAT COUNTS. Prove the row's statement (the work); the ties are given (YtpblajjfgnhkdaaDoorTie.lean); close each card by the builder's one call (the guide's Derived/Test/ToyasCard.lean, 'card_holds'). Laid BY PROGRAM, IN A SANDBOX (cutbox-door.mjs). By AI agents, Wed Nov 11 2026. No macro, syntax, notation, axiom, sorry.
-/
import Derived.Test.YtpblajjfgnhkdaaDoorRows
import GoSem.ClaimSeven
namespace Go.Proofs.YtpblajjfgnhkdaaDoor
namespace Rows

/-- THE TIED CARD OF 'formelaw11.Trees'. -/
def treesCard : Claim7 := { stood := { row := treesRow, standIns := [], harness := (true, "1caaca42808f2a56742c21aa01b230daaaa0d02424dbe3cb6ad44d634a594b64"), looks := false }, kinds := [], alts := [], laidByText := true, laidKinds := [.data], laidTests := true, laidLooks := .later }
def TreesCardSaid : Prop := Claim7.holds Tryd.pinned (.plain (OpenSpec.ofChange treesSpec)) treesCard

/-- THE TIED CARD OF 'formelaw11.TreeAll'. -/
def treeAllCard : Claim7 := { stood := { row := treeAllRow, standIns := [], harness := (true, "1caaca42808f2a56742c21aa01b230daaaa0d02424dbe3cb6ad44d634a594b64"), looks := false }, kinds := [], alts := [], laidByText := true, laidKinds := [.data], laidTests := true, laidLooks := .later }
def TreeAllCardSaid : Prop := Claim7.holds Tryd.pinned (.plain (OpenSpec.ofChange treeAllSpec)) treeAllCard

/-- THE TIED CARD OF 'formelaw11.TreeForms'. -/
def treeFormsCard : Claim7 := { stood := { row := treeFormsRow, standIns := [], harness := (true, "1caaca42808f2a56742c21aa01b230daaaa0d02424dbe3cb6ad44d634a594b64"), looks := false }, kinds := [], alts := [], laidByText := true, laidKinds := [.data], laidTests := true, laidLooks := .later }
def TreeFormsCardSaid : Prop := Claim7.holds Tryd.pinned (.plain (OpenSpec.ofChange treeFormsSpec)) treeFormsCard

/-- THE TIED CARD OF 'formelaw11.TreeDeep'. -/
def treeDeepCard : Claim7 := { stood := { row := treeDeepRow, standIns := [], harness := (true, "1caaca42808f2a56742c21aa01b230daaaa0d02424dbe3cb6ad44d634a594b64"), looks := false }, kinds := [], alts := [], laidByText := true, laidKinds := [.data], laidTests := true, laidLooks := .later }
def TreeDeepCardSaid : Prop := Claim7.holds Tryd.pinned (.plain (OpenSpec.ofChange treeDeepSpec)) treeDeepCard

/-- THE TIED CARD OF 'formelaw11.TreeCut'. -/
def treeCutCard : Claim7 := { stood := { row := treeCutRow, standIns := [], harness := (true, "1caaca42808f2a56742c21aa01b230daaaa0d02424dbe3cb6ad44d634a594b64"), looks := false }, kinds := [], alts := [], laidByText := true, laidKinds := [.data], laidTests := true, laidLooks := .later }
def TreeCutCardSaid : Prop := Claim7.holds Tryd.pinned (.plain (OpenSpec.ofChange treeCutSpec)) treeCutCard

/-- THE TIED CARD OF 'formelaw15.IntrinsicText'. -/
def intrinsicTextCard : Claim7 := { stood := { row := intrinsicTextRow, standIns := [], harness := (true, "1caaca42808f2a56742c21aa01b230daaaa0d02424dbe3cb6ad44d634a594b64"), looks := false }, kinds := [], alts := [], laidByText := true, laidKinds := [.data, .data, .data, .data, .data, .data], laidTests := true, laidLooks := .later }
def IntrinsicTextCardSaid : Prop := Claim7.holds Tryd.pinned (.plain (OpenSpec.ofChange intrinsicTextSpec)) intrinsicTextCard

/-- THE TIED CARD OF 'formelaw15.IntrinsicForms'. -/
def intrinsicFormsCard : Claim7 := { stood := { row := intrinsicFormsRow, standIns := [], harness := (true, "1caaca42808f2a56742c21aa01b230daaaa0d02424dbe3cb6ad44d634a594b64"), looks := false }, kinds := [], alts := [], laidByText := true, laidKinds := [.data, .data, .data, .data, .data, .data], laidTests := true, laidLooks := .later }
def IntrinsicFormsCardSaid : Prop := Claim7.holds Tryd.pinned (.plain (OpenSpec.ofChange intrinsicFormsSpec)) intrinsicFormsCard

/-- THE TIED CARD OF 'formelaw15.IntrinsicRows'. -/
def intrinsicRowsCard : Claim7 := { stood := { row := intrinsicRowsRow, standIns := [], harness := (true, "1caaca42808f2a56742c21aa01b230daaaa0d02424dbe3cb6ad44d634a594b64"), looks := false }, kinds := [], alts := [], laidByText := true, laidKinds := [.data, .data, .data, .data, .data, .data], laidTests := true, laidLooks := .later }
def IntrinsicRowsCardSaid : Prop := Claim7.holds Tryd.pinned (.plain (OpenSpec.ofChange intrinsicRowsSpec)) intrinsicRowsCard

/-- THE TIED CARD OF 'formelaw15.IntrinsicLess'. -/
def intrinsicLessCard : Claim7 := { stood := { row := intrinsicLessRow, standIns := [], harness := (true, "1caaca42808f2a56742c21aa01b230daaaa0d02424dbe3cb6ad44d634a594b64"), looks := false }, kinds := [], alts := [], laidByText := true, laidKinds := [.data, .data, .data, .data, .data, .data], laidTests := true, laidLooks := .later }
def IntrinsicLessCardSaid : Prop := Claim7.holds Tryd.pinned (.plain (OpenSpec.ofChange intrinsicLessSpec)) intrinsicLessCard

/-- THE SECOND FORM's CARD OF 'formelaw11.Trees'. -/
def treesUptoCard : Claim7 := { stood := { row := treesUptoRow, standIns := [], harness := (true, "1caaca42808f2a56742c21aa01b230daaaa0d02424dbe3cb6ad44d634a594b64"), looks := false }, kinds := [], alts := [], laidByText := true, laidKinds := [.data], laidTests := true, laidLooks := .later }
def TreesUptoCardSaid : Prop := Claim7.holds Tryd.pinned (.plain (OpenSpec.upto treesSpec)) treesUptoCard

/-- THE SECOND FORM's CARD OF 'formelaw11.TreeAll'. -/
def treeAllUptoCard : Claim7 := { stood := { row := treeAllUptoRow, standIns := [], harness := (true, "1caaca42808f2a56742c21aa01b230daaaa0d02424dbe3cb6ad44d634a594b64"), looks := false }, kinds := [], alts := [], laidByText := true, laidKinds := [.data], laidTests := true, laidLooks := .later }
def TreeAllUptoCardSaid : Prop := Claim7.holds Tryd.pinned (.plain (OpenSpec.upto treeAllSpec)) treeAllUptoCard

/-- THE SECOND FORM's CARD OF 'formelaw11.TreeForms'. -/
def treeFormsUptoCard : Claim7 := { stood := { row := treeFormsUptoRow, standIns := [], harness := (true, "1caaca42808f2a56742c21aa01b230daaaa0d02424dbe3cb6ad44d634a594b64"), looks := false }, kinds := [], alts := [], laidByText := true, laidKinds := [.data], laidTests := true, laidLooks := .later }
def TreeFormsUptoCardSaid : Prop := Claim7.holds Tryd.pinned (.plain (OpenSpec.upto treeFormsSpec)) treeFormsUptoCard

/-- THE SECOND FORM's CARD OF 'formelaw11.TreeDeep'. -/
def treeDeepUptoCard : Claim7 := { stood := { row := treeDeepUptoRow, standIns := [], harness := (true, "1caaca42808f2a56742c21aa01b230daaaa0d02424dbe3cb6ad44d634a594b64"), looks := false }, kinds := [], alts := [], laidByText := true, laidKinds := [.data], laidTests := true, laidLooks := .later }
def TreeDeepUptoCardSaid : Prop := Claim7.holds Tryd.pinned (.plain (OpenSpec.upto treeDeepSpec)) treeDeepUptoCard

/-- THE SECOND FORM's CARD OF 'formelaw11.TreeCut'. -/
def treeCutUptoCard : Claim7 := { stood := { row := treeCutUptoRow, standIns := [], harness := (true, "1caaca42808f2a56742c21aa01b230daaaa0d02424dbe3cb6ad44d634a594b64"), looks := false }, kinds := [], alts := [], laidByText := true, laidKinds := [.data], laidTests := true, laidLooks := .later }
def TreeCutUptoCardSaid : Prop := Claim7.holds Tryd.pinned (.plain (OpenSpec.upto treeCutSpec)) treeCutUptoCard

/-- THE SECOND FORM's CARD OF 'formelaw15.IntrinsicText'. -/
def intrinsicTextUptoCard : Claim7 := { stood := { row := intrinsicTextUptoRow, standIns := [], harness := (true, "1caaca42808f2a56742c21aa01b230daaaa0d02424dbe3cb6ad44d634a594b64"), looks := false }, kinds := [], alts := [], laidByText := true, laidKinds := [.data, .data, .data, .data, .data, .data], laidTests := true, laidLooks := .later }
def IntrinsicTextUptoCardSaid : Prop := Claim7.holds Tryd.pinned (.plain (OpenSpec.upto intrinsicTextSpec)) intrinsicTextUptoCard

/-- THE SECOND FORM's CARD OF 'formelaw15.IntrinsicForms'. -/
def intrinsicFormsUptoCard : Claim7 := { stood := { row := intrinsicFormsUptoRow, standIns := [], harness := (true, "1caaca42808f2a56742c21aa01b230daaaa0d02424dbe3cb6ad44d634a594b64"), looks := false }, kinds := [], alts := [], laidByText := true, laidKinds := [.data, .data, .data, .data, .data, .data], laidTests := true, laidLooks := .later }
def IntrinsicFormsUptoCardSaid : Prop := Claim7.holds Tryd.pinned (.plain (OpenSpec.upto intrinsicFormsSpec)) intrinsicFormsUptoCard

/-- THE SECOND FORM's CARD OF 'formelaw15.IntrinsicRows'. -/
def intrinsicRowsUptoCard : Claim7 := { stood := { row := intrinsicRowsUptoRow, standIns := [], harness := (true, "1caaca42808f2a56742c21aa01b230daaaa0d02424dbe3cb6ad44d634a594b64"), looks := false }, kinds := [], alts := [], laidByText := true, laidKinds := [.data, .data, .data, .data, .data, .data], laidTests := true, laidLooks := .later }
def IntrinsicRowsUptoCardSaid : Prop := Claim7.holds Tryd.pinned (.plain (OpenSpec.upto intrinsicRowsSpec)) intrinsicRowsUptoCard

/-- THE SECOND FORM's CARD OF 'formelaw15.IntrinsicLess'. -/
def intrinsicLessUptoCard : Claim7 := { stood := { row := intrinsicLessUptoRow, standIns := [], harness := (true, "1caaca42808f2a56742c21aa01b230daaaa0d02424dbe3cb6ad44d634a594b64"), looks := false }, kinds := [], alts := [], laidByText := true, laidKinds := [.data, .data, .data, .data, .data, .data], laidTests := true, laidLooks := .later }
def IntrinsicLessUptoCardSaid : Prop := Claim7.holds Tryd.pinned (.plain (OpenSpec.upto intrinsicLessSpec)) intrinsicLessUptoCard
end Rows
end Go.Proofs.YtpblajjfgnhkdaaDoor
