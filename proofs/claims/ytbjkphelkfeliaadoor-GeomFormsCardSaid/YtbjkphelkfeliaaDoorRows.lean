/-
  NARROWER THAN 'FOR EVERY INPUT', by the rows' own cells (each row's printed sentence says how): Geoms: laid · GeomBack: laid · GeomForms: laid · GeomTable: laid · GeomMoves: laid.
  DERIVED. THE GIVEN ROWS OF THIS SEAT. 5 by the template 'for every input the law returns true; each argument reads behind the call as it read before'; 0 by the template 'total and deterministic' (their statements: YtbjkphelkfeliaaDoorTotals.lean).
  GIVEN WITH THE SEED: the statements are not yours to turn. If you find one false, say at which input.
  Laid BY PROGRAM, IN A SANDBOX (cutbox-rows.mjs): the forced cells as the released guide's own fill.sh prints them over the translation bcea6555a4b604ae… (all of the seat's roots in one cut). By AI agents, Wed Nov 11 2026. No macro, syntax, notation, axiom, sorry.
-/
import Derived.Test.YtbjkphelkfeliaaDoorChecked
import GoSem.Claim
import GoSem.ClaimJoined
import GoSem.ClaimMapViews
import Derived.JoinedTies
import Derived.KernelRfl
namespace Go.Proofs.YtbjkphelkfeliaaDoor
/- THE CELL 'sum', in the pinned program and in every row, IS THE sha256 OF THE DUMP (.gsa) THAT YtbjkphelkfeliaaDoorProg.lean LOADS. Nothing in Lean hashes anything: it is a label: what it is worth is what the hold of that sum in a sandbox is worth. -/
noncomputable def Tryd.pinned : Pinned := { name := "ytbjkphelkfeliaadoor", sum := "bcea6555a4b604aeb587331b70c985cab35714c04290e21fe3de1a24c4183aa1", checked := Tryd.checked }
namespace Rows
def none {H : Type} : Left H := { results := [], args := [] }

/- WHAT THE LISTED PACKAGE-LEVEL VARIABLES READ AS WHEN THE CALL BEGINS. Each datum BY PROGRAM (the guide's laid-datum.mjs) off the statement by which the dump's own 'gosem.cut.vars' lays the variable. In a bare row this is a premise. The card (YtbjkphelkfeliaaDoorCards.lean) ties it to the program's text. -/
def laid_forme_mode_edges {H : Type} : DataW H := .agg [.agg [.lit (.int .i64 3), .lit (.int .i64 1), .lit (.int .i64 0), .lit (.int .i64 2)], .agg [.lit (.int .i64 0), .lit (.int .i64 2), .lit (.int .i64 1), .lit (.int .i64 3)], .agg [.lit (.int .i64 0), .lit (.int .i64 2), .lit (.int .i64 3), .lit (.int .i64 1)]]
def laid_forme_mode_rightToLeft {H : Type} : DataW H := .agg [.lit (.int .i64 1), .lit (.int .i64 0), .lit (.int .i64 2), .lit (.int .i64 3)]

/-- 'formelaw3.Geoms': WHATEVER THE INPUT: true; the input reads as it did. -/
def geomsSpec : ChangeSpec := { name := "geoms", fn := fun _ => fun
  | [d1, d2, d3, d4, d5, d6] => { results := [.lit (.bool true)], args := [d1, d2, d3, d4, d5, d6] }
  | _ => none }
def geomsRow : OpenClaim := { program := "ytbjkphelkfeliaadoor", sum := "bcea6555a4b604aeb587331b70c985cab35714c04290e21fe3de1a24c4183aa1", func := "forme/formelaw3.Geoms", spec := "geoms", named := ["forme/mode.rightToLeft", "forme/mode.edges"], apart := false, laid := [("forme/mode.edges", laid_forme_mode_edges), ("forme/mode.rightToLeft", laid_forme_mode_rightToLeft)] }
def GeomsSaid : Prop := geomsRow.holds Tryd.pinned (OpenSpec.ofChange geomsSpec)

/-- ITS FALSE NEIGHBOUR: 'it returns false'. Refute it at one input. -/
def geomsWrong : ChangeSpec := { name := "geoms", fn := fun _ => fun
  | [d1, d2, d3, d4, d5, d6] => { results := [.lit (.bool false)], args := [d1, d2, d3, d4, d5, d6] }
  | _ => none }
def GeomsWrongFalsely : Prop := geomsRow.holds Tryd.pinned (OpenSpec.ofChange geomsWrong)

/-- 'formelaw3.GeomBack': WHATEVER THE INPUT: true; the input reads as it did. -/
def geomBackSpec : ChangeSpec := { name := "geomBack", fn := fun _ => fun
  | [d1, d2, d3, d4] => { results := [.lit (.bool true)], args := [d1, d2, d3, d4] }
  | _ => none }
def geomBackRow : OpenClaim := { program := "ytbjkphelkfeliaadoor", sum := "bcea6555a4b604aeb587331b70c985cab35714c04290e21fe3de1a24c4183aa1", func := "forme/formelaw3.GeomBack", spec := "geomBack", named := ["forme/mode.rightToLeft", "forme/mode.edges"], apart := false, laid := [("forme/mode.edges", laid_forme_mode_edges), ("forme/mode.rightToLeft", laid_forme_mode_rightToLeft)] }
def GeomBackSaid : Prop := geomBackRow.holds Tryd.pinned (OpenSpec.ofChange geomBackSpec)

/-- ITS FALSE NEIGHBOUR: 'it returns false'. Refute it at one input. -/
def geomBackWrong : ChangeSpec := { name := "geomBack", fn := fun _ => fun
  | [d1, d2, d3, d4] => { results := [.lit (.bool false)], args := [d1, d2, d3, d4] }
  | _ => none }
def GeomBackWrongFalsely : Prop := geomBackRow.holds Tryd.pinned (OpenSpec.ofChange geomBackWrong)

/-- 'formelaw3.GeomForms': WHATEVER THE INPUT: true; the input reads as it did. -/
def geomFormsSpec : ChangeSpec := { name := "geomForms", fn := fun _ => fun
  | [d1, d2] => { results := [.lit (.bool true)], args := [d1, d2] }
  | _ => none }
def geomFormsRow : OpenClaim := { program := "ytbjkphelkfeliaadoor", sum := "bcea6555a4b604aeb587331b70c985cab35714c04290e21fe3de1a24c4183aa1", func := "forme/formelaw3.GeomForms", spec := "geomForms", named := ["forme/mode.rightToLeft", "forme/mode.edges"], apart := false, laid := [("forme/mode.edges", laid_forme_mode_edges), ("forme/mode.rightToLeft", laid_forme_mode_rightToLeft)] }
def GeomFormsSaid : Prop := geomFormsRow.holds Tryd.pinned (OpenSpec.ofChange geomFormsSpec)

/-- ITS FALSE NEIGHBOUR: 'it returns false'. Refute it at one input. -/
def geomFormsWrong : ChangeSpec := { name := "geomForms", fn := fun _ => fun
  | [d1, d2] => { results := [.lit (.bool false)], args := [d1, d2] }
  | _ => none }
def GeomFormsWrongFalsely : Prop := geomFormsRow.holds Tryd.pinned (OpenSpec.ofChange geomFormsWrong)

/-- 'formelaw3.GeomTable': WHATEVER THE INPUT: true; the input reads as it did. -/
def geomTableSpec : ChangeSpec := { name := "geomTable", fn := fun _ => fun
  | [d1, d2, d3] => { results := [.lit (.bool true)], args := [d1, d2, d3] }
  | _ => none }
def geomTableRow : OpenClaim := { program := "ytbjkphelkfeliaadoor", sum := "bcea6555a4b604aeb587331b70c985cab35714c04290e21fe3de1a24c4183aa1", func := "forme/formelaw3.GeomTable", spec := "geomTable", named := ["forme/mode.rightToLeft", "forme/mode.edges"], apart := false, laid := [("forme/mode.edges", laid_forme_mode_edges), ("forme/mode.rightToLeft", laid_forme_mode_rightToLeft)] }
def GeomTableSaid : Prop := geomTableRow.holds Tryd.pinned (OpenSpec.ofChange geomTableSpec)

/-- ITS FALSE NEIGHBOUR: 'it returns false'. Refute it at one input. -/
def geomTableWrong : ChangeSpec := { name := "geomTable", fn := fun _ => fun
  | [d1, d2, d3] => { results := [.lit (.bool false)], args := [d1, d2, d3] }
  | _ => none }
def GeomTableWrongFalsely : Prop := geomTableRow.holds Tryd.pinned (OpenSpec.ofChange geomTableWrong)

/-- 'formelaw3.GeomMoves': WHATEVER THE INPUT: true; the input reads as it did. -/
def geomMovesSpec : ChangeSpec := { name := "geomMoves", fn := fun _ => fun
  | [d1, d2, d3, d4] => { results := [.lit (.bool true)], args := [d1, d2, d3, d4] }
  | _ => none }
def geomMovesRow : OpenClaim := { program := "ytbjkphelkfeliaadoor", sum := "bcea6555a4b604aeb587331b70c985cab35714c04290e21fe3de1a24c4183aa1", func := "forme/formelaw3.GeomMoves", spec := "geomMoves", named := ["forme/mode.rightToLeft", "forme/mode.edges"], apart := false, laid := [("forme/mode.edges", laid_forme_mode_edges), ("forme/mode.rightToLeft", laid_forme_mode_rightToLeft)] }
def GeomMovesSaid : Prop := geomMovesRow.holds Tryd.pinned (OpenSpec.ofChange geomMovesSpec)

/-- ITS FALSE NEIGHBOUR: 'it returns false'. Refute it at one input. -/
def geomMovesWrong : ChangeSpec := { name := "geomMoves", fn := fun _ => fun
  | [d1, d2, d3, d4] => { results := [.lit (.bool false)], args := [d1, d2, d3, d4] }
  | _ => none }
def GeomMovesWrongFalsely : Prop := geomMovesRow.holds Tryd.pinned (OpenSpec.ofChange geomMovesWrong)

/- THE SECOND FORM. 'bulk': how many values and letters a reading holds, each counted each time it is reached (what is shared counts as often as it is met; a slice's spare places count too). A statement '..UptoSaid' is the law's where the arguments, and the package variables that the reading takes, are together of bulk at most 1048576: NARROWER than '..Said'. Prove '..Said' where nothing that the law and all that it calls make is longer than what came in: it says more and counts as full. Else prove '..UptoSaid'. A law counts once. -/
mutual
def uptoBulk {H : Type} : DataW H → Nat
  | .lit (.string bytes) => bytes.length + 1
  | .lit _ => 1
  | .nil => 1
  | .ptr d => uptoBulk d + 1
  | .slice elems spare => uptoBulkAll elems + uptoBulkAll spare + 1
  | .agg parts => uptoBulkAll parts + 1
  | .iface _ d => uptoBulk d + 1
  | .map entries => uptoBulkEntries entries + 1
  | .held _ => 1
def uptoBulkAll {H : Type} : List (DataW H) → Nat
  | [] => 0
  | d :: r => uptoBulk d + uptoBulkAll r
def uptoBulkEntries {H : Type} : List (Lit × DataW H) → Nat
  | [] => 0
  | x :: r => uptoBulkEntry x + uptoBulkEntries r
def uptoBulkEntry {H : Type} : Lit × DataW H → Nat
  | (.string bytes, d) => bytes.length + uptoBulk d + 1
  | (_, d) => uptoBulk d + 1
 end
def uptoSmall : (H : Type) → List (DataW H) → Bool := fun _ ds => decide (uptoBulkAll ds ≤ 1048576)
def OpenSpec.upto (s : _root_.Go.ChangeSpec) : _root_.Go.OpenSpec := { _root_.Go.OpenSpec.ofChange s with cond := some uptoSmall }

/-- 'formelaw3.Geoms', WHERE WHAT IT READS IS OF BULK AT MOST 1048576: true; the input reads as it did. -/
def geomsUptoRow : OpenClaim := { program := "ytbjkphelkfeliaadoor", sum := "bcea6555a4b604aeb587331b70c985cab35714c04290e21fe3de1a24c4183aa1", func := "forme/formelaw3.Geoms", spec := "geoms", named := ["forme/mode.rightToLeft", "forme/mode.edges"], apart := false, laid := [("forme/mode.edges", laid_forme_mode_edges), ("forme/mode.rightToLeft", laid_forme_mode_rightToLeft)], narrowed := true }
def GeomsUptoSaid : Prop := geomsUptoRow.holds Tryd.pinned (OpenSpec.upto geomsSpec)

/-- 'formelaw3.GeomBack', WHERE WHAT IT READS IS OF BULK AT MOST 1048576: true; the input reads as it did. -/
def geomBackUptoRow : OpenClaim := { program := "ytbjkphelkfeliaadoor", sum := "bcea6555a4b604aeb587331b70c985cab35714c04290e21fe3de1a24c4183aa1", func := "forme/formelaw3.GeomBack", spec := "geomBack", named := ["forme/mode.rightToLeft", "forme/mode.edges"], apart := false, laid := [("forme/mode.edges", laid_forme_mode_edges), ("forme/mode.rightToLeft", laid_forme_mode_rightToLeft)], narrowed := true }
def GeomBackUptoSaid : Prop := geomBackUptoRow.holds Tryd.pinned (OpenSpec.upto geomBackSpec)

/-- 'formelaw3.GeomForms', WHERE WHAT IT READS IS OF BULK AT MOST 1048576: true; the input reads as it did. -/
def geomFormsUptoRow : OpenClaim := { program := "ytbjkphelkfeliaadoor", sum := "bcea6555a4b604aeb587331b70c985cab35714c04290e21fe3de1a24c4183aa1", func := "forme/formelaw3.GeomForms", spec := "geomForms", named := ["forme/mode.rightToLeft", "forme/mode.edges"], apart := false, laid := [("forme/mode.edges", laid_forme_mode_edges), ("forme/mode.rightToLeft", laid_forme_mode_rightToLeft)], narrowed := true }
def GeomFormsUptoSaid : Prop := geomFormsUptoRow.holds Tryd.pinned (OpenSpec.upto geomFormsSpec)

/-- 'formelaw3.GeomTable', WHERE WHAT IT READS IS OF BULK AT MOST 1048576: true; the input reads as it did. -/
def geomTableUptoRow : OpenClaim := { program := "ytbjkphelkfeliaadoor", sum := "bcea6555a4b604aeb587331b70c985cab35714c04290e21fe3de1a24c4183aa1", func := "forme/formelaw3.GeomTable", spec := "geomTable", named := ["forme/mode.rightToLeft", "forme/mode.edges"], apart := false, laid := [("forme/mode.edges", laid_forme_mode_edges), ("forme/mode.rightToLeft", laid_forme_mode_rightToLeft)], narrowed := true }
def GeomTableUptoSaid : Prop := geomTableUptoRow.holds Tryd.pinned (OpenSpec.upto geomTableSpec)

/-- 'formelaw3.GeomMoves', WHERE WHAT IT READS IS OF BULK AT MOST 1048576: true; the input reads as it did. -/
def geomMovesUptoRow : OpenClaim := { program := "ytbjkphelkfeliaadoor", sum := "bcea6555a4b604aeb587331b70c985cab35714c04290e21fe3de1a24c4183aa1", func := "forme/formelaw3.GeomMoves", spec := "geomMoves", named := ["forme/mode.rightToLeft", "forme/mode.edges"], apart := false, laid := [("forme/mode.edges", laid_forme_mode_edges), ("forme/mode.rightToLeft", laid_forme_mode_rightToLeft)], narrowed := true }
def GeomMovesUptoSaid : Prop := geomMovesUptoRow.holds Tryd.pinned (OpenSpec.upto geomMovesSpec)

end Rows
end Go.Proofs.YtbjkphelkfeliaaDoor
