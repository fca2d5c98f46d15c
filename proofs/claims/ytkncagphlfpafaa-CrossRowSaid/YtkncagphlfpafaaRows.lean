/-
  No cell of these rows narrows 'for every input' (looked for: loops, veiled, ifaces, maps, wideKeys, modest, calm, conditions, laid).
  DERIVED. THE GIVEN ROWS OF THIS SEAT. 10 by the template 'for every input the law returns true; each argument reads behind the call as it read before'; 0 by the template 'total and deterministic' (their statements: YtkncagphlfpafaaTotals.lean).
  GIVEN WITH THE SEED: the statements are not yours to turn. If you find one false, say at which input.
  Laid BY PROGRAM, IN A SANDBOX (cutbox-rows.mjs): the forced cells as the released guide's own fill.sh prints them over the translation 69a47c772e97cd5e… (all of the seat's roots in one cut). By AI agents, Wed Nov 11 2026. No macro, syntax, notation, axiom, sorry.
-/
import Derived.Test.YtkncagphlfpafaaChecked
import GoSem.Claim
import GoSem.ClaimJoined
import GoSem.ClaimMapViews
import Derived.JoinedTies
import Derived.KernelRfl
namespace Go.Proofs.Ytkncagphlfpafaa
/- THE CELL 'sum', in the pinned program and in every row, IS THE sha256 OF THE DUMP (.gsa) THAT YtkncagphlfpafaaProg.lean LOADS. Nothing in Lean hashes anything: it is a label: what it is worth is what the hold of that sum in a sandbox is worth. -/
noncomputable def Try.pinned : Pinned := { name := "ytkncagphlfpafaa", sum := "69a47c772e97cd5e2c09212f5a8e2eeeba008dc711f3ca1e3f17a01fd0d0288f", checked := Try.checked }
namespace Rows
def none {H : Type} : Left H := { results := [], args := [] }

/-- 'formelaw12.Margins': WHATEVER THE INPUT: true; the input reads as it did. -/
def marginsSpec : ChangeSpec := { name := "margins", fn := fun _ => fun
  | [d1, d2, d3] => { results := [.lit (.bool true)], args := [d1, d2, d3] }
  | _ => none }
def marginsRow : OpenClaim := { program := "ytkncagphlfpafaa", sum := "69a47c772e97cd5e2c09212f5a8e2eeeba008dc711f3ca1e3f17a01fd0d0288f", func := "forme/formelaw12.Margins", spec := "margins", unfollowed := true, recurses := true, apart := false }
def MarginsSaid : Prop := marginsRow.holds Try.pinned (OpenSpec.ofChange marginsSpec)

/-- ITS FALSE NEIGHBOUR: 'it returns false'. Refute it at one input. -/
def marginsWrong : ChangeSpec := { name := "margins", fn := fun _ => fun
  | [d1, d2, d3] => { results := [.lit (.bool false)], args := [d1, d2, d3] }
  | _ => none }
def MarginsWrongFalsely : Prop := marginsRow.holds Try.pinned (OpenSpec.ofChange marginsWrong)

/-- 'formelaw12.MarginAny': WHATEVER THE INPUT: true; the input reads as it did. -/
def marginAnySpec : ChangeSpec := { name := "marginAny", fn := fun _ => fun
  | [d1, d2] => { results := [.lit (.bool true)], args := [d1, d2] }
  | _ => none }
def marginAnyRow : OpenClaim := { program := "ytkncagphlfpafaa", sum := "69a47c772e97cd5e2c09212f5a8e2eeeba008dc711f3ca1e3f17a01fd0d0288f", func := "forme/formelaw12.MarginAny", spec := "marginAny", unfollowed := true, recurses := true, apart := false }
def MarginAnySaid : Prop := marginAnyRow.holds Try.pinned (OpenSpec.ofChange marginAnySpec)

/-- ITS FALSE NEIGHBOUR: 'it returns false'. Refute it at one input. -/
def marginAnyWrong : ChangeSpec := { name := "marginAny", fn := fun _ => fun
  | [d1, d2] => { results := [.lit (.bool false)], args := [d1, d2] }
  | _ => none }
def MarginAnyWrongFalsely : Prop := marginAnyRow.holds Try.pinned (OpenSpec.ofChange marginAnyWrong)

/-- 'formelaw12.MarginForms': WHATEVER THE INPUT: true; the input reads as it did. -/
def marginFormsSpec : ChangeSpec := { name := "marginForms", fn := fun _ => fun
  | [d1, d2, d3] => { results := [.lit (.bool true)], args := [d1, d2, d3] }
  | _ => none }
def marginFormsRow : OpenClaim := { program := "ytkncagphlfpafaa", sum := "69a47c772e97cd5e2c09212f5a8e2eeeba008dc711f3ca1e3f17a01fd0d0288f", func := "forme/formelaw12.MarginForms", spec := "marginForms", unfollowed := true, recurses := true, apart := false }
def MarginFormsSaid : Prop := marginFormsRow.holds Try.pinned (OpenSpec.ofChange marginFormsSpec)

/-- ITS FALSE NEIGHBOUR: 'it returns false'. Refute it at one input. -/
def marginFormsWrong : ChangeSpec := { name := "marginForms", fn := fun _ => fun
  | [d1, d2, d3] => { results := [.lit (.bool false)], args := [d1, d2, d3] }
  | _ => none }
def MarginFormsWrongFalsely : Prop := marginFormsRow.holds Try.pinned (OpenSpec.ofChange marginFormsWrong)

/-- 'formelaw12.MarginRow': WHATEVER THE INPUT: true; the input reads as it did. -/
def marginRowSpec : ChangeSpec := { name := "marginRow", fn := fun _ => fun
  | [d] => { results := [.lit (.bool true)], args := [d] }
  | _ => none }
def marginRowRow : OpenClaim := { program := "ytkncagphlfpafaa", sum := "69a47c772e97cd5e2c09212f5a8e2eeeba008dc711f3ca1e3f17a01fd0d0288f", func := "forme/formelaw12.MarginRow", spec := "marginRow", unfollowed := true, recurses := true, apart := false }
def MarginRowSaid : Prop := marginRowRow.holds Try.pinned (OpenSpec.ofChange marginRowSpec)

/-- ITS FALSE NEIGHBOUR: 'it returns false'. Refute it at one input. -/
def marginRowWrong : ChangeSpec := { name := "marginRow", fn := fun _ => fun
  | [d] => { results := [.lit (.bool false)], args := [d] }
  | _ => none }
def MarginRowWrongFalsely : Prop := marginRowRow.holds Try.pinned (OpenSpec.ofChange marginRowWrong)

/-- 'formelaw12.MarginSigns': WHATEVER THE INPUT: true; the input reads as it did. -/
def marginSignsSpec : ChangeSpec := { name := "marginSigns", fn := fun _ => fun
  | [d1, d2] => { results := [.lit (.bool true)], args := [d1, d2] }
  | _ => none }
def marginSignsRow : OpenClaim := { program := "ytkncagphlfpafaa", sum := "69a47c772e97cd5e2c09212f5a8e2eeeba008dc711f3ca1e3f17a01fd0d0288f", func := "forme/formelaw12.MarginSigns", spec := "marginSigns", unfollowed := true, recurses := true, apart := false }
def MarginSignsSaid : Prop := marginSignsRow.holds Try.pinned (OpenSpec.ofChange marginSignsSpec)

/-- ITS FALSE NEIGHBOUR: 'it returns false'. Refute it at one input. -/
def marginSignsWrong : ChangeSpec := { name := "marginSigns", fn := fun _ => fun
  | [d1, d2] => { results := [.lit (.bool false)], args := [d1, d2] }
  | _ => none }
def MarginSignsWrongFalsely : Prop := marginSignsRow.holds Try.pinned (OpenSpec.ofChange marginSignsWrong)

/-- 'formelaw21.Crosses': WHATEVER THE INPUT: true; the input reads as it did. -/
def crossesSpec : ChangeSpec := { name := "crosses", fn := fun _ => fun
  | [d1, d2, d3, d4, d5, d6] => { results := [.lit (.bool true)], args := [d1, d2, d3, d4, d5, d6] }
  | _ => none }
def crossesRow : OpenClaim := { program := "ytkncagphlfpafaa", sum := "69a47c772e97cd5e2c09212f5a8e2eeeba008dc711f3ca1e3f17a01fd0d0288f", func := "forme/formelaw21.Crosses", spec := "crosses", unfollowed := true, recurses := true, apart := false }
def CrossesSaid : Prop := crossesRow.holds Try.pinned (OpenSpec.ofChange crossesSpec)

/-- ITS FALSE NEIGHBOUR: 'it returns false'. Refute it at one input. -/
def crossesWrong : ChangeSpec := { name := "crosses", fn := fun _ => fun
  | [d1, d2, d3, d4, d5, d6] => { results := [.lit (.bool false)], args := [d1, d2, d3, d4, d5, d6] }
  | _ => none }
def CrossesWrongFalsely : Prop := crossesRow.holds Try.pinned (OpenSpec.ofChange crossesWrong)

/-- 'formelaw21.CrossRow': WHATEVER THE INPUT: true; the input reads as it did. -/
def crossRowSpec : ChangeSpec := { name := "crossRow", fn := fun _ => fun
  | [d1, d2, d3] => { results := [.lit (.bool true)], args := [d1, d2, d3] }
  | _ => none }
def crossRowRow : OpenClaim := { program := "ytkncagphlfpafaa", sum := "69a47c772e97cd5e2c09212f5a8e2eeeba008dc711f3ca1e3f17a01fd0d0288f", func := "forme/formelaw21.CrossRow", spec := "crossRow", unfollowed := true, recurses := true, apart := false }
def CrossRowSaid : Prop := crossRowRow.holds Try.pinned (OpenSpec.ofChange crossRowSpec)

/-- ITS FALSE NEIGHBOUR: 'it returns false'. Refute it at one input. -/
def crossRowWrong : ChangeSpec := { name := "crossRow", fn := fun _ => fun
  | [d1, d2, d3] => { results := [.lit (.bool false)], args := [d1, d2, d3] }
  | _ => none }
def CrossRowWrongFalsely : Prop := crossRowRow.holds Try.pinned (OpenSpec.ofChange crossRowWrong)

/-- 'formelaw21.CrossForms': WHATEVER THE INPUT: true; the input reads as it did. -/
def crossFormsSpec : ChangeSpec := { name := "crossForms", fn := fun _ => fun
  | [d1, d2] => { results := [.lit (.bool true)], args := [d1, d2] }
  | _ => none }
def crossFormsRow : OpenClaim := { program := "ytkncagphlfpafaa", sum := "69a47c772e97cd5e2c09212f5a8e2eeeba008dc711f3ca1e3f17a01fd0d0288f", func := "forme/formelaw21.CrossForms", spec := "crossForms", unfollowed := true, recurses := true, apart := false }
def CrossFormsSaid : Prop := crossFormsRow.holds Try.pinned (OpenSpec.ofChange crossFormsSpec)

/-- ITS FALSE NEIGHBOUR: 'it returns false'. Refute it at one input. -/
def crossFormsWrong : ChangeSpec := { name := "crossForms", fn := fun _ => fun
  | [d1, d2] => { results := [.lit (.bool false)], args := [d1, d2] }
  | _ => none }
def CrossFormsWrongFalsely : Prop := crossFormsRow.holds Try.pinned (OpenSpec.ofChange crossFormsWrong)

/-- 'formelaw21.CrossTable': WHATEVER THE INPUT: true; the input reads as it did. -/
def crossTableSpec : ChangeSpec := { name := "crossTable", fn := fun _ => fun
  | [d1, d2, d3] => { results := [.lit (.bool true)], args := [d1, d2, d3] }
  | _ => none }
def crossTableRow : OpenClaim := { program := "ytkncagphlfpafaa", sum := "69a47c772e97cd5e2c09212f5a8e2eeeba008dc711f3ca1e3f17a01fd0d0288f", func := "forme/formelaw21.CrossTable", spec := "crossTable", unfollowed := true, recurses := true, apart := false }
def CrossTableSaid : Prop := crossTableRow.holds Try.pinned (OpenSpec.ofChange crossTableSpec)

/-- ITS FALSE NEIGHBOUR: 'it returns false'. Refute it at one input. -/
def crossTableWrong : ChangeSpec := { name := "crossTable", fn := fun _ => fun
  | [d1, d2, d3] => { results := [.lit (.bool false)], args := [d1, d2, d3] }
  | _ => none }
def CrossTableWrongFalsely : Prop := crossTableRow.holds Try.pinned (OpenSpec.ofChange crossTableWrong)

/-- 'formelaw21.CrossEnds': WHATEVER THE INPUT: true; the input reads as it did. -/
def crossEndsSpec : ChangeSpec := { name := "crossEnds", fn := fun _ => fun
  | [d1, d2] => { results := [.lit (.bool true)], args := [d1, d2] }
  | _ => none }
def crossEndsRow : OpenClaim := { program := "ytkncagphlfpafaa", sum := "69a47c772e97cd5e2c09212f5a8e2eeeba008dc711f3ca1e3f17a01fd0d0288f", func := "forme/formelaw21.CrossEnds", spec := "crossEnds", unfollowed := true, recurses := true, apart := false }
def CrossEndsSaid : Prop := crossEndsRow.holds Try.pinned (OpenSpec.ofChange crossEndsSpec)

/-- ITS FALSE NEIGHBOUR: 'it returns false'. Refute it at one input. -/
def crossEndsWrong : ChangeSpec := { name := "crossEnds", fn := fun _ => fun
  | [d1, d2] => { results := [.lit (.bool false)], args := [d1, d2] }
  | _ => none }
def CrossEndsWrongFalsely : Prop := crossEndsRow.holds Try.pinned (OpenSpec.ofChange crossEndsWrong)

/- THE SECOND FORM. 'bulk': how many values and letters a reading holds, each counted each time it is reached (what is shared counts as often as it is met; a slice's spare places count too). A statement '..UptoSaid' is the law's where the arguments, and the package variables that the reading takes, are together of bulk at most 1048576: NARROWER than '..Said'. Prove '..Said' where nothing that the law and all that it calls make is longer than what came in: it says more and counts as full. Else prove '..UptoSaid'. A law counts once. -/
mutual
def uptoBulk {H : Type} : DataW H → Nat
  | .lit (.string bytes) => bytes.length + 1
  | .lit _ => 1
  | .nil => 1
  | .ptr d => uptoBulk d + 1
  | .slice elems spare => uptoBulkAll elems + uptoBulkAll spare + 1
  | .agg parts => uptoBulkAll parts + 1
  | .iface _ d => uptoBulk d + 1
  | .map entries => uptoBulkEntries entries + 1
  | .held _ => 1
def uptoBulkAll {H : Type} : List (DataW H) → Nat
  | [] => 0
  | d :: r => uptoBulk d + uptoBulkAll r
def uptoBulkEntries {H : Type} : List (Lit × DataW H) → Nat
  | [] => 0
  | x :: r => uptoBulkEntry x + uptoBulkEntries r
def uptoBulkEntry {H : Type} : Lit × DataW H → Nat
  | (.string bytes, d) => bytes.length + uptoBulk d + 1
  | (_, d) => uptoBulk d + 1
 end
def uptoSmall : (H : Type) → List (DataW H) → Bool := fun _ ds => decide (uptoBulkAll ds ≤ 1048576)
def OpenSpec.upto (s : _root_.Go.ChangeSpec) : _root_.Go.OpenSpec := { _root_.Go.OpenSpec.ofChange s with cond := some uptoSmall }

/-- 'formelaw12.Margins', WHERE WHAT IT READS IS OF BULK AT MOST 1048576: true; the input reads as it did. -/
def marginsUptoRow : OpenClaim := { program := "ytkncagphlfpafaa", sum := "69a47c772e97cd5e2c09212f5a8e2eeeba008dc711f3ca1e3f17a01fd0d0288f", func := "forme/formelaw12.Margins", spec := "margins", unfollowed := true, recurses := true, apart := false, narrowed := true }
def MarginsUptoSaid : Prop := marginsUptoRow.holds Try.pinned (OpenSpec.upto marginsSpec)

/-- 'formelaw12.MarginAny', WHERE WHAT IT READS IS OF BULK AT MOST 1048576: true; the input reads as it did. -/
def marginAnyUptoRow : OpenClaim := { program := "ytkncagphlfpafaa", sum := "69a47c772e97cd5e2c09212f5a8e2eeeba008dc711f3ca1e3f17a01fd0d0288f", func := "forme/formelaw12.MarginAny", spec := "marginAny", unfollowed := true, recurses := true, apart := false, narrowed := true }
def MarginAnyUptoSaid : Prop := marginAnyUptoRow.holds Try.pinned (OpenSpec.upto marginAnySpec)

/-- 'formelaw12.MarginForms', WHERE WHAT IT READS IS OF BULK AT MOST 1048576: true; the input reads as it did. -/
def marginFormsUptoRow : OpenClaim := { program := "ytkncagphlfpafaa", sum := "69a47c772e97cd5e2c09212f5a8e2eeeba008dc711f3ca1e3f17a01fd0d0288f", func := "forme/formelaw12.MarginForms", spec := "marginForms", unfollowed := true, recurses := true, apart := false, narrowed := true }
def MarginFormsUptoSaid : Prop := marginFormsUptoRow.holds Try.pinned (OpenSpec.upto marginFormsSpec)

/-- 'formelaw12.MarginRow', WHERE WHAT IT READS IS OF BULK AT MOST 1048576: true; the input reads as it did. -/
def marginRowUptoRow : OpenClaim := { program := "ytkncagphlfpafaa", sum := "69a47c772e97cd5e2c09212f5a8e2eeeba008dc711f3ca1e3f17a01fd0d0288f", func := "forme/formelaw12.MarginRow", spec := "marginRow", unfollowed := true, recurses := true, apart := false, narrowed := true }
def MarginRowUptoSaid : Prop := marginRowUptoRow.holds Try.pinned (OpenSpec.upto marginRowSpec)

/-- 'formelaw12.MarginSigns', WHERE WHAT IT READS IS OF BULK AT MOST 1048576: true; the input reads as it did. -/
def marginSignsUptoRow : OpenClaim := { program := "ytkncagphlfpafaa", sum := "69a47c772e97cd5e2c09212f5a8e2eeeba008dc711f3ca1e3f17a01fd0d0288f", func := "forme/formelaw12.MarginSigns", spec := "marginSigns", unfollowed := true, recurses := true, apart := false, narrowed := true }
def MarginSignsUptoSaid : Prop := marginSignsUptoRow.holds Try.pinned (OpenSpec.upto marginSignsSpec)

/-- 'formelaw21.Crosses', WHERE WHAT IT READS IS OF BULK AT MOST 1048576: true; the input reads as it did. -/
def crossesUptoRow : OpenClaim := { program := "ytkncagphlfpafaa", sum := "69a47c772e97cd5e2c09212f5a8e2eeeba008dc711f3ca1e3f17a01fd0d0288f", func := "forme/formelaw21.Crosses", spec := "crosses", unfollowed := true, recurses := true, apart := false, narrowed := true }
def CrossesUptoSaid : Prop := crossesUptoRow.holds Try.pinned (OpenSpec.upto crossesSpec)

/-- 'formelaw21.CrossRow', WHERE WHAT IT READS IS OF BULK AT MOST 1048576: true; the input reads as it did. -/
def crossRowUptoRow : OpenClaim := { program := "ytkncagphlfpafaa", sum := "69a47c772e97cd5e2c09212f5a8e2eeeba008dc711f3ca1e3f17a01fd0d0288f", func := "forme/formelaw21.CrossRow", spec := "crossRow", unfollowed := true, recurses := true, apart := false, narrowed := true }
def CrossRowUptoSaid : Prop := crossRowUptoRow.holds Try.pinned (OpenSpec.upto crossRowSpec)

/-- 'formelaw21.CrossForms', WHERE WHAT IT READS IS OF BULK AT MOST 1048576: true; the input reads as it did. -/
def crossFormsUptoRow : OpenClaim := { program := "ytkncagphlfpafaa", sum := "69a47c772e97cd5e2c09212f5a8e2eeeba008dc711f3ca1e3f17a01fd0d0288f", func := "forme/formelaw21.CrossForms", spec := "crossForms", unfollowed := true, recurses := true, apart := false, narrowed := true }
def CrossFormsUptoSaid : Prop := crossFormsUptoRow.holds Try.pinned (OpenSpec.upto crossFormsSpec)

/-- 'formelaw21.CrossTable', WHERE WHAT IT READS IS OF BULK AT MOST 1048576: true; the input reads as it did. -/
def crossTableUptoRow : OpenClaim := { program := "ytkncagphlfpafaa", sum := "69a47c772e97cd5e2c09212f5a8e2eeeba008dc711f3ca1e3f17a01fd0d0288f", func := "forme/formelaw21.CrossTable", spec := "crossTable", unfollowed := true, recurses := true, apart := false, narrowed := true }
def CrossTableUptoSaid : Prop := crossTableUptoRow.holds Try.pinned (OpenSpec.upto crossTableSpec)

/-- 'formelaw21.CrossEnds', WHERE WHAT IT READS IS OF BULK AT MOST 1048576: true; the input reads as it did. -/
def crossEndsUptoRow : OpenClaim := { program := "ytkncagphlfpafaa", sum := "69a47c772e97cd5e2c09212f5a8e2eeeba008dc711f3ca1e3f17a01fd0d0288f", func := "forme/formelaw21.CrossEnds", spec := "crossEnds", unfollowed := true, recurses := true, apart := false, narrowed := true }
def CrossEndsUptoSaid : Prop := crossEndsUptoRow.holds Try.pinned (OpenSpec.upto crossEndsSpec)

end Rows
end Go.Proofs.Ytkncagphlfpafaa
