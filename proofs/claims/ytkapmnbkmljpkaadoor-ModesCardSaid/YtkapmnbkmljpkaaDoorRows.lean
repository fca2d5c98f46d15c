/-
  NARROWER THAN 'FOR EVERY INPUT', by the rows' own cells (each row's printed sentence says how): Modes: laid · ModeSides: laid · ModeForms: laid · ModeTable: laid · ModeApart: laid · Geoms: laid.
  DERIVED. THE GIVEN ROWS OF THIS SEAT. 6 by the template 'for every input the law returns true; each argument reads behind the call as it read before'; 0 by the template 'total and deterministic' (their statements: YtkapmnbkmljpkaaDoorTotals.lean).
  GIVEN WITH THE SEED: the statements are not yours to turn. If you find one false, say at which input.
  Laid BY PROGRAM, IN A SANDBOX (cutbox-rows.mjs): the forced cells as the released guide's own fill.sh prints them over the translation 202287631f3c235f… (all of the seat's roots in one cut). By AI agents, Wed Nov 11 2026. No macro, syntax, notation, axiom, sorry.
-/
import Derived.Test.YtkapmnbkmljpkaaDoorChecked
import GoSem.Claim
import GoSem.ClaimJoined
import GoSem.ClaimMapViews
import Derived.JoinedTies
import Derived.KernelRfl
namespace Go.Proofs.YtkapmnbkmljpkaaDoor
/- THE CELL 'sum', in the pinned program and in every row, IS THE sha256 OF THE DUMP (.gsa) THAT YtkapmnbkmljpkaaDoorProg.lean LOADS. Nothing in Lean hashes anything: it is a label: what it is worth is what the hold of that sum in a sandbox is worth. -/
noncomputable def Tryd.pinned : Pinned := { name := "ytkapmnbkmljpkaadoor", sum := "202287631f3c235fc735b022fef87233343da7d3914018c739b6bafc1a7ae7bd", checked := Tryd.checked }
namespace Rows
def none {H : Type} : Left H := { results := [], args := [] }

/- WHAT THE LISTED PACKAGE-LEVEL VARIABLES READ AS WHEN THE CALL BEGINS. Each datum BY PROGRAM (the guide's laid-datum.mjs) off the statement by which the dump's own 'gosem.cut.vars' lays the variable. In a bare row this is a premise. The card (YtkapmnbkmljpkaaDoorCards.lean) ties it to the program's text. -/
def laid_forme_mode_edges {H : Type} : DataW H := .agg [.agg [.lit (.int .i64 3), .lit (.int .i64 1), .lit (.int .i64 0), .lit (.int .i64 2)], .agg [.lit (.int .i64 0), .lit (.int .i64 2), .lit (.int .i64 1), .lit (.int .i64 3)], .agg [.lit (.int .i64 0), .lit (.int .i64 2), .lit (.int .i64 3), .lit (.int .i64 1)]]
def laid_forme_mode_rightToLeft {H : Type} : DataW H := .agg [.lit (.int .i64 1), .lit (.int .i64 0), .lit (.int .i64 2), .lit (.int .i64 3)]

/-- 'formelaw2.Modes': WHATEVER THE INPUT: true; the input reads as it did. -/
def modesSpec : ChangeSpec := { name := "modes", fn := fun _ => fun
  | [d1, d2] => { results := [.lit (.bool true)], args := [d1, d2] }
  | _ => none }
def modesRow : OpenClaim := { program := "ytkapmnbkmljpkaadoor", sum := "202287631f3c235fc735b022fef87233343da7d3914018c739b6bafc1a7ae7bd", func := "forme/formelaw2.Modes", spec := "modes", named := ["forme/mode.rightToLeft", "forme/mode.edges"], apart := false, laid := [("forme/mode.edges", laid_forme_mode_edges), ("forme/mode.rightToLeft", laid_forme_mode_rightToLeft)] }
def ModesSaid : Prop := modesRow.holds Tryd.pinned (OpenSpec.ofChange modesSpec)

/-- ITS FALSE NEIGHBOUR: 'it returns false'. Refute it at one input. -/
def modesWrong : ChangeSpec := { name := "modes", fn := fun _ => fun
  | [d1, d2] => { results := [.lit (.bool false)], args := [d1, d2] }
  | _ => none }
def ModesWrongFalsely : Prop := modesRow.holds Tryd.pinned (OpenSpec.ofChange modesWrong)

/-- 'formelaw2.ModeSides': WHATEVER THE INPUT: true; the input reads as it did. -/
def modeSidesSpec : ChangeSpec := { name := "modeSides", fn := fun _ => fun
  | [d] => { results := [.lit (.bool true)], args := [d] }
  | _ => none }
def modeSidesRow : OpenClaim := { program := "ytkapmnbkmljpkaadoor", sum := "202287631f3c235fc735b022fef87233343da7d3914018c739b6bafc1a7ae7bd", func := "forme/formelaw2.ModeSides", spec := "modeSides", named := ["forme/mode.rightToLeft", "forme/mode.edges"], apart := false, laid := [("forme/mode.edges", laid_forme_mode_edges), ("forme/mode.rightToLeft", laid_forme_mode_rightToLeft)] }
def ModeSidesSaid : Prop := modeSidesRow.holds Tryd.pinned (OpenSpec.ofChange modeSidesSpec)

/-- ITS FALSE NEIGHBOUR: 'it returns false'. Refute it at one input. -/
def modeSidesWrong : ChangeSpec := { name := "modeSides", fn := fun _ => fun
  | [d] => { results := [.lit (.bool false)], args := [d] }
  | _ => none }
def ModeSidesWrongFalsely : Prop := modeSidesRow.holds Tryd.pinned (OpenSpec.ofChange modeSidesWrong)

/-- 'formelaw2.ModeForms': WHATEVER THE INPUT: true; the input reads as it did. -/
def modeFormsSpec : ChangeSpec := { name := "modeForms", fn := fun _ => fun
  | [d1, d2] => { results := [.lit (.bool true)], args := [d1, d2] }
  | _ => none }
def modeFormsRow : OpenClaim := { program := "ytkapmnbkmljpkaadoor", sum := "202287631f3c235fc735b022fef87233343da7d3914018c739b6bafc1a7ae7bd", func := "forme/formelaw2.ModeForms", spec := "modeForms", named := ["forme/mode.rightToLeft", "forme/mode.edges"], apart := false, laid := [("forme/mode.edges", laid_forme_mode_edges), ("forme/mode.rightToLeft", laid_forme_mode_rightToLeft)] }
def ModeFormsSaid : Prop := modeFormsRow.holds Tryd.pinned (OpenSpec.ofChange modeFormsSpec)

/-- ITS FALSE NEIGHBOUR: 'it returns false'. Refute it at one input. -/
def modeFormsWrong : ChangeSpec := { name := "modeForms", fn := fun _ => fun
  | [d1, d2] => { results := [.lit (.bool false)], args := [d1, d2] }
  | _ => none }
def ModeFormsWrongFalsely : Prop := modeFormsRow.holds Tryd.pinned (OpenSpec.ofChange modeFormsWrong)

/-- 'formelaw2.ModeTable': WHATEVER THE INPUT: true; the input reads as it did. -/
def modeTableSpec : ChangeSpec := { name := "modeTable", fn := fun _ => fun
  | [d] => { results := [.lit (.bool true)], args := [d] }
  | _ => none }
def modeTableRow : OpenClaim := { program := "ytkapmnbkmljpkaadoor", sum := "202287631f3c235fc735b022fef87233343da7d3914018c739b6bafc1a7ae7bd", func := "forme/formelaw2.ModeTable", spec := "modeTable", named := ["forme/mode.rightToLeft", "forme/mode.edges"], apart := false, laid := [("forme/mode.edges", laid_forme_mode_edges), ("forme/mode.rightToLeft", laid_forme_mode_rightToLeft)] }
def ModeTableSaid : Prop := modeTableRow.holds Tryd.pinned (OpenSpec.ofChange modeTableSpec)

/-- ITS FALSE NEIGHBOUR: 'it returns false'. Refute it at one input. -/
def modeTableWrong : ChangeSpec := { name := "modeTable", fn := fun _ => fun
  | [d] => { results := [.lit (.bool false)], args := [d] }
  | _ => none }
def ModeTableWrongFalsely : Prop := modeTableRow.holds Tryd.pinned (OpenSpec.ofChange modeTableWrong)

/-- 'formelaw2.ModeApart': WHATEVER THE INPUT: true; the input reads as it did. -/
def modeApartSpec : ChangeSpec := { name := "modeApart", fn := fun _ => fun
  | [] => { results := [.lit (.bool true)], args := [] }
  | _ => none }
def modeApartRow : OpenClaim := { program := "ytkapmnbkmljpkaadoor", sum := "202287631f3c235fc735b022fef87233343da7d3914018c739b6bafc1a7ae7bd", func := "forme/formelaw2.ModeApart", spec := "modeApart", named := ["forme/mode.rightToLeft", "forme/mode.edges"], apart := false, laid := [("forme/mode.edges", laid_forme_mode_edges), ("forme/mode.rightToLeft", laid_forme_mode_rightToLeft)] }
def ModeApartSaid : Prop := modeApartRow.holds Tryd.pinned (OpenSpec.ofChange modeApartSpec)

/-- ITS FALSE NEIGHBOUR: 'it returns false'. Refute it at one input. -/
def modeApartWrong : ChangeSpec := { name := "modeApart", fn := fun _ => fun
  | [] => { results := [.lit (.bool false)], args := [] }
  | _ => none }
def ModeApartWrongFalsely : Prop := modeApartRow.holds Tryd.pinned (OpenSpec.ofChange modeApartWrong)

/-- 'formelaw3.Geoms': WHATEVER THE INPUT: true; the input reads as it did. -/
def geomsSpec : ChangeSpec := { name := "geoms", fn := fun _ => fun
  | [d1, d2, d3, d4, d5, d6] => { results := [.lit (.bool true)], args := [d1, d2, d3, d4, d5, d6] }
  | _ => none }
def geomsRow : OpenClaim := { program := "ytkapmnbkmljpkaadoor", sum := "202287631f3c235fc735b022fef87233343da7d3914018c739b6bafc1a7ae7bd", func := "forme/formelaw3.Geoms", spec := "geoms", named := ["forme/mode.rightToLeft", "forme/mode.edges"], apart := false, laid := [("forme/mode.edges", laid_forme_mode_edges), ("forme/mode.rightToLeft", laid_forme_mode_rightToLeft)] }
def GeomsSaid : Prop := geomsRow.holds Tryd.pinned (OpenSpec.ofChange geomsSpec)

/-- ITS FALSE NEIGHBOUR: 'it returns false'. Refute it at one input. -/
def geomsWrong : ChangeSpec := { name := "geoms", fn := fun _ => fun
  | [d1, d2, d3, d4, d5, d6] => { results := [.lit (.bool false)], args := [d1, d2, d3, d4, d5, d6] }
  | _ => none }
def GeomsWrongFalsely : Prop := geomsRow.holds Tryd.pinned (OpenSpec.ofChange geomsWrong)

/- THE SECOND FORM. 'bulk': how many values and letters a reading holds, each counted each time it is reached (what is shared counts as often as it is met; a slice's spare places count too). A statement '..UptoSaid' is the law's where the arguments, and the package variables that the reading takes, are together of bulk at most 1048576: NARROWER than '..Said'. Prove '..Said' where nothing that the law and all that it calls make is longer than what came in: it says more and counts as full. Else prove '..UptoSaid'. A law counts once. -/
mutual
def uptoBulk {H : Type} : DataW H → Nat
  | .lit (.string bytes) => bytes.length + 1
  | .lit _ => 1
  | .nil => 1
  | .ptr d => uptoBulk d + 1
  | .slice elems spare => uptoBulkAll elems + uptoBulkAll spare + 1
  | .agg parts => uptoBulkAll parts + 1
  | .iface _ d => uptoBulk d + 1
  | .map entries => uptoBulkEntries entries + 1
  | .held _ => 1
def uptoBulkAll {H : Type} : List (DataW H) → Nat
  | [] => 0
  | d :: r => uptoBulk d + uptoBulkAll r
def uptoBulkEntries {H : Type} : List (Lit × DataW H) → Nat
  | [] => 0
  | x :: r => uptoBulkEntry x + uptoBulkEntries r
def uptoBulkEntry {H : Type} : Lit × DataW H → Nat
  | (.string bytes, d) => bytes.length + uptoBulk d + 1
  | (_, d) => uptoBulk d + 1
 end
def uptoSmall : (H : Type) → List (DataW H) → Bool := fun _ ds => decide (uptoBulkAll ds ≤ 1048576)
def OpenSpec.upto (s : _root_.Go.ChangeSpec) : _root_.Go.OpenSpec := { _root_.Go.OpenSpec.ofChange s with cond := some uptoSmall }

/-- 'formelaw2.Modes', WHERE WHAT IT READS IS OF BULK AT MOST 1048576: true; the input reads as it did. -/
def modesUptoRow : OpenClaim := { program := "ytkapmnbkmljpkaadoor", sum := "202287631f3c235fc735b022fef87233343da7d3914018c739b6bafc1a7ae7bd", func := "forme/formelaw2.Modes", spec := "modes", named := ["forme/mode.rightToLeft", "forme/mode.edges"], apart := false, laid := [("forme/mode.edges", laid_forme_mode_edges), ("forme/mode.rightToLeft", laid_forme_mode_rightToLeft)], narrowed := true }
def ModesUptoSaid : Prop := modesUptoRow.holds Tryd.pinned (OpenSpec.upto modesSpec)

/-- 'formelaw2.ModeSides', WHERE WHAT IT READS IS OF BULK AT MOST 1048576: true; the input reads as it did. -/
def modeSidesUptoRow : OpenClaim := { program := "ytkapmnbkmljpkaadoor", sum := "202287631f3c235fc735b022fef87233343da7d3914018c739b6bafc1a7ae7bd", func := "forme/formelaw2.ModeSides", spec := "modeSides", named := ["forme/mode.rightToLeft", "forme/mode.edges"], apart := false, laid := [("forme/mode.edges", laid_forme_mode_edges), ("forme/mode.rightToLeft", laid_forme_mode_rightToLeft)], narrowed := true }
def ModeSidesUptoSaid : Prop := modeSidesUptoRow.holds Tryd.pinned (OpenSpec.upto modeSidesSpec)

/-- 'formelaw2.ModeForms', WHERE WHAT IT READS IS OF BULK AT MOST 1048576: true; the input reads as it did. -/
def modeFormsUptoRow : OpenClaim := { program := "ytkapmnbkmljpkaadoor", sum := "202287631f3c235fc735b022fef87233343da7d3914018c739b6bafc1a7ae7bd", func := "forme/formelaw2.ModeForms", spec := "modeForms", named := ["forme/mode.rightToLeft", "forme/mode.edges"], apart := false, laid := [("forme/mode.edges", laid_forme_mode_edges), ("forme/mode.rightToLeft", laid_forme_mode_rightToLeft)], narrowed := true }
def ModeFormsUptoSaid : Prop := modeFormsUptoRow.holds Tryd.pinned (OpenSpec.upto modeFormsSpec)

/-- 'formelaw2.ModeTable', WHERE WHAT IT READS IS OF BULK AT MOST 1048576: true; the input reads as it did. -/
def modeTableUptoRow : OpenClaim := { program := "ytkapmnbkmljpkaadoor", sum := "202287631f3c235fc735b022fef87233343da7d3914018c739b6bafc1a7ae7bd", func := "forme/formelaw2.ModeTable", spec := "modeTable", named := ["forme/mode.rightToLeft", "forme/mode.edges"], apart := false, laid := [("forme/mode.edges", laid_forme_mode_edges), ("forme/mode.rightToLeft", laid_forme_mode_rightToLeft)], narrowed := true }
def ModeTableUptoSaid : Prop := modeTableUptoRow.holds Tryd.pinned (OpenSpec.upto modeTableSpec)

/-- 'formelaw2.ModeApart', WHERE WHAT IT READS IS OF BULK AT MOST 1048576: true; the input reads as it did. -/
def modeApartUptoRow : OpenClaim := { program := "ytkapmnbkmljpkaadoor", sum := "202287631f3c235fc735b022fef87233343da7d3914018c739b6bafc1a7ae7bd", func := "forme/formelaw2.ModeApart", spec := "modeApart", named := ["forme/mode.rightToLeft", "forme/mode.edges"], apart := false, laid := [("forme/mode.edges", laid_forme_mode_edges), ("forme/mode.rightToLeft", laid_forme_mode_rightToLeft)], narrowed := true }
def ModeApartUptoSaid : Prop := modeApartUptoRow.holds Tryd.pinned (OpenSpec.upto modeApartSpec)

/-- 'formelaw3.Geoms', WHERE WHAT IT READS IS OF BULK AT MOST 1048576: true; the input reads as it did. -/
def geomsUptoRow : OpenClaim := { program := "ytkapmnbkmljpkaadoor", sum := "202287631f3c235fc735b022fef87233343da7d3914018c739b6bafc1a7ae7bd", func := "forme/formelaw3.Geoms", spec := "geoms", named := ["forme/mode.rightToLeft", "forme/mode.edges"], apart := false, laid := [("forme/mode.edges", laid_forme_mode_edges), ("forme/mode.rightToLeft", laid_forme_mode_rightToLeft)], narrowed := true }
def GeomsUptoSaid : Prop := geomsUptoRow.holds Tryd.pinned (OpenSpec.upto geomsSpec)

end Rows
end Go.Proofs.YtkapmnbkmljpkaaDoor
