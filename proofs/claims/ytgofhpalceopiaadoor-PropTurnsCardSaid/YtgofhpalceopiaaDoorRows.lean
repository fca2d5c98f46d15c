/-
  NARROWER THAN 'FOR EVERY INPUT', by the rows' own cells (each row's printed sentence says how): Props: laid · PropOne: laid · PropForms: laid · PropTurns: laid · PropEdges: laid.
  DERIVED. THE GIVEN ROWS OF THIS SEAT. 5 by the template 'for every input the law returns true; each argument reads behind the call as it read before'; 0 by the template 'total and deterministic' (their statements: YtgofhpalceopiaaDoorTotals.lean).
  GIVEN WITH THE SEED: the statements are not yours to turn. If you find one false, say at which input.
  Laid BY PROGRAM, IN A SANDBOX (cutbox-rows.mjs): the forced cells as the released guide's own fill.sh prints them over the translation ea6841f98c5a0029… (all of the seat's roots in one cut). By AI agents, Wed Nov 11 2026. No macro, syntax, notation, axiom, sorry.
-/
import Derived.Test.YtgofhpalceopiaaDoorChecked
import GoSem.Claim
import GoSem.ClaimJoined
import GoSem.ClaimMapViews
import Derived.JoinedTies
import Derived.KernelRfl
namespace Go.Proofs.YtgofhpalceopiaaDoor
/- THE CELL 'sum', in the pinned program and in every row, IS THE sha256 OF THE DUMP (.gsa) THAT YtgofhpalceopiaaDoorProg.lean LOADS. Nothing in Lean hashes anything: it is a label: what it is worth is what the hold of that sum in a sandbox is worth. -/
noncomputable def Tryd.pinned : Pinned := { name := "ytgofhpalceopiaadoor", sum := "ea6841f98c5a0029215aa4550f5c7d27c4bf22a3b0457680884a5af0bce66124", checked := Tryd.checked }
namespace Rows
def none {H : Type} : Left H := { results := [], args := [] }

/- WHAT THE LISTED PACKAGE-LEVEL VARIABLES READ AS WHEN THE CALL BEGINS. Each datum BY PROGRAM (the guide's laid-datum.mjs) off the statement by which the dump's own 'gosem.cut.vars' lays the variable. In a bare row this is a premise. The card (YtgofhpalceopiaaDoorCards.lean) ties it to the program's text. -/
def laid_forme_mode_edges {H : Type} : DataW H := .agg [.agg [.lit (.int .i64 3), .lit (.int .i64 1), .lit (.int .i64 0), .lit (.int .i64 2)], .agg [.lit (.int .i64 0), .lit (.int .i64 2), .lit (.int .i64 1), .lit (.int .i64 3)], .agg [.lit (.int .i64 0), .lit (.int .i64 2), .lit (.int .i64 3), .lit (.int .i64 1)]]
def laid_forme_mode_rightToLeft {H : Type} : DataW H := .agg [.lit (.int .i64 1), .lit (.int .i64 0), .lit (.int .i64 2), .lit (.int .i64 3)]
def laid_forme_prop_names {H : Type} : DataW H := .agg [.lit (.string [105, 110, 108, 105, 110, 101, 45, 115, 105, 122, 101]), .lit (.string [98, 108, 111, 99, 107, 45, 115, 105, 122, 101]), .lit (.string [119, 105, 100, 116, 104]), .lit (.string [104, 101, 105, 103, 104, 116]), .lit (.string [109, 105, 110, 45, 105, 110, 108, 105, 110, 101, 45, 115, 105, 122, 101]), .lit (.string [109, 97, 120, 45, 105, 110, 108, 105, 110, 101, 45, 115, 105, 122, 101]), .lit (.string [109, 97, 114, 103, 105, 110, 45, 105, 110, 108, 105, 110, 101, 45, 115, 116, 97, 114, 116]), .lit (.string [109, 97, 114, 103, 105, 110, 45, 105, 110, 108, 105, 110, 101, 45, 101, 110, 100]), .lit (.string [109, 97, 114, 103, 105, 110, 45, 98, 108, 111, 99, 107, 45, 115, 116, 97, 114, 116]), .lit (.string [109, 97, 114, 103, 105, 110, 45, 98, 108, 111, 99, 107, 45, 101, 110, 100]), .lit (.string [109, 97, 114, 103, 105, 110, 45, 116, 111, 112]), .lit (.string [109, 97, 114, 103, 105, 110, 45, 114, 105, 103, 104, 116]), .lit (.string [109, 97, 114, 103, 105, 110, 45, 98, 111, 116, 116, 111, 109]), .lit (.string [109, 97, 114, 103, 105, 110, 45, 108, 101, 102, 116]), .lit (.string [112, 97, 100, 100, 105, 110, 103, 45, 105, 110, 108, 105, 110, 101, 45, 115, 116, 97, 114, 116]), .lit (.string [112, 97, 100, 100, 105, 110, 103, 45, 105, 110, 108, 105, 110, 101, 45, 101, 110, 100]), .lit (.string [112, 97, 100, 100, 105, 110, 103, 45, 98, 108, 111, 99, 107, 45, 115, 116, 97, 114, 116]), .lit (.string [112, 97, 100, 100, 105, 110, 103, 45, 98, 108, 111, 99, 107, 45, 101, 110, 100]), .lit (.string [112, 97, 100, 100, 105, 110, 103, 45, 116, 111, 112]), .lit (.string [112, 97, 100, 100, 105, 110, 103, 45, 114, 105, 103, 104, 116]), .lit (.string [112, 97, 100, 100, 105, 110, 103, 45, 98, 111, 116, 116, 111, 109]), .lit (.string [112, 97, 100, 100, 105, 110, 103, 45, 108, 101, 102, 116]), .lit (.string [102, 108, 101, 120, 45, 98, 97, 115, 105, 115]), .lit (.string [102, 108, 101, 120, 45, 103, 114, 111, 119]), .lit (.string [102, 108, 101, 120, 45, 115, 104, 114, 105, 110, 107]), .lit (.string [116, 101, 120, 116, 45, 97, 108, 105, 103, 110]), .lit (.string [97, 108, 105, 103, 110, 45, 105, 116, 101, 109, 115]), .lit (.string [106, 117, 115, 116, 105, 102, 121, 45, 99, 111, 110, 116, 101, 110, 116]), .lit (.string [102, 108, 101, 120, 45, 119, 114, 97, 112])]

/-- 'formelaw9.Props': WHATEVER THE INPUT: true; the input reads as it did. -/
def propsSpec : ChangeSpec := { name := "props", fn := fun _ => fun
  | [d1, d2, d3] => { results := [.lit (.bool true)], args := [d1, d2, d3] }
  | _ => none }
def propsRow : OpenClaim := { program := "ytgofhpalceopiaadoor", sum := "ea6841f98c5a0029215aa4550f5c7d27c4bf22a3b0457680884a5af0bce66124", func := "forme/formelaw9.Props", spec := "props", named := ["forme/prop.names", "forme/mode.rightToLeft", "forme/mode.edges"], apart := false, laid := [("forme/mode.edges", laid_forme_mode_edges), ("forme/mode.rightToLeft", laid_forme_mode_rightToLeft), ("forme/prop.names", laid_forme_prop_names)] }
def PropsSaid : Prop := propsRow.holds Tryd.pinned (OpenSpec.ofChange propsSpec)

/-- ITS FALSE NEIGHBOUR: 'it returns false'. Refute it at one input. -/
def propsWrong : ChangeSpec := { name := "props", fn := fun _ => fun
  | [d1, d2, d3] => { results := [.lit (.bool false)], args := [d1, d2, d3] }
  | _ => none }
def PropsWrongFalsely : Prop := propsRow.holds Tryd.pinned (OpenSpec.ofChange propsWrong)

/-- 'formelaw9.PropOne': WHATEVER THE INPUT: true; the input reads as it did. -/
def propOneSpec : ChangeSpec := { name := "propOne", fn := fun _ => fun
  | [d] => { results := [.lit (.bool true)], args := [d] }
  | _ => none }
def propOneRow : OpenClaim := { program := "ytgofhpalceopiaadoor", sum := "ea6841f98c5a0029215aa4550f5c7d27c4bf22a3b0457680884a5af0bce66124", func := "forme/formelaw9.PropOne", spec := "propOne", named := ["forme/prop.names", "forme/mode.rightToLeft", "forme/mode.edges"], apart := false, laid := [("forme/mode.edges", laid_forme_mode_edges), ("forme/mode.rightToLeft", laid_forme_mode_rightToLeft), ("forme/prop.names", laid_forme_prop_names)] }
def PropOneSaid : Prop := propOneRow.holds Tryd.pinned (OpenSpec.ofChange propOneSpec)

/-- ITS FALSE NEIGHBOUR: 'it returns false'. Refute it at one input. -/
def propOneWrong : ChangeSpec := { name := "propOne", fn := fun _ => fun
  | [d] => { results := [.lit (.bool false)], args := [d] }
  | _ => none }
def PropOneWrongFalsely : Prop := propOneRow.holds Tryd.pinned (OpenSpec.ofChange propOneWrong)

/-- 'formelaw9.PropForms': WHATEVER THE INPUT: true; the input reads as it did. -/
def propFormsSpec : ChangeSpec := { name := "propForms", fn := fun _ => fun
  | [d1, d2] => { results := [.lit (.bool true)], args := [d1, d2] }
  | _ => none }
def propFormsRow : OpenClaim := { program := "ytgofhpalceopiaadoor", sum := "ea6841f98c5a0029215aa4550f5c7d27c4bf22a3b0457680884a5af0bce66124", func := "forme/formelaw9.PropForms", spec := "propForms", named := ["forme/prop.names", "forme/mode.rightToLeft", "forme/mode.edges"], apart := false, laid := [("forme/mode.edges", laid_forme_mode_edges), ("forme/mode.rightToLeft", laid_forme_mode_rightToLeft), ("forme/prop.names", laid_forme_prop_names)] }
def PropFormsSaid : Prop := propFormsRow.holds Tryd.pinned (OpenSpec.ofChange propFormsSpec)

/-- ITS FALSE NEIGHBOUR: 'it returns false'. Refute it at one input. -/
def propFormsWrong : ChangeSpec := { name := "propForms", fn := fun _ => fun
  | [d1, d2] => { results := [.lit (.bool false)], args := [d1, d2] }
  | _ => none }
def PropFormsWrongFalsely : Prop := propFormsRow.holds Tryd.pinned (OpenSpec.ofChange propFormsWrong)

/-- 'formelaw9.PropTurns': WHATEVER THE INPUT: true; the input reads as it did. -/
def propTurnsSpec : ChangeSpec := { name := "propTurns", fn := fun _ => fun
  | [d] => { results := [.lit (.bool true)], args := [d] }
  | _ => none }
def propTurnsRow : OpenClaim := { program := "ytgofhpalceopiaadoor", sum := "ea6841f98c5a0029215aa4550f5c7d27c4bf22a3b0457680884a5af0bce66124", func := "forme/formelaw9.PropTurns", spec := "propTurns", named := ["forme/prop.names", "forme/mode.rightToLeft", "forme/mode.edges"], apart := false, laid := [("forme/mode.edges", laid_forme_mode_edges), ("forme/mode.rightToLeft", laid_forme_mode_rightToLeft), ("forme/prop.names", laid_forme_prop_names)] }
def PropTurnsSaid : Prop := propTurnsRow.holds Tryd.pinned (OpenSpec.ofChange propTurnsSpec)

/-- ITS FALSE NEIGHBOUR: 'it returns false'. Refute it at one input. -/
def propTurnsWrong : ChangeSpec := { name := "propTurns", fn := fun _ => fun
  | [d] => { results := [.lit (.bool false)], args := [d] }
  | _ => none }
def PropTurnsWrongFalsely : Prop := propTurnsRow.holds Tryd.pinned (OpenSpec.ofChange propTurnsWrong)

/-- 'formelaw9.PropEdges': WHATEVER THE INPUT: true; the input reads as it did. -/
def propEdgesSpec : ChangeSpec := { name := "propEdges", fn := fun _ => fun
  | [d] => { results := [.lit (.bool true)], args := [d] }
  | _ => none }
def propEdgesRow : OpenClaim := { program := "ytgofhpalceopiaadoor", sum := "ea6841f98c5a0029215aa4550f5c7d27c4bf22a3b0457680884a5af0bce66124", func := "forme/formelaw9.PropEdges", spec := "propEdges", named := ["forme/prop.names", "forme/mode.rightToLeft", "forme/mode.edges"], apart := false, laid := [("forme/mode.edges", laid_forme_mode_edges), ("forme/mode.rightToLeft", laid_forme_mode_rightToLeft), ("forme/prop.names", laid_forme_prop_names)] }
def PropEdgesSaid : Prop := propEdgesRow.holds Tryd.pinned (OpenSpec.ofChange propEdgesSpec)

/-- ITS FALSE NEIGHBOUR: 'it returns false'. Refute it at one input. -/
def propEdgesWrong : ChangeSpec := { name := "propEdges", fn := fun _ => fun
  | [d] => { results := [.lit (.bool false)], args := [d] }
  | _ => none }
def PropEdgesWrongFalsely : Prop := propEdgesRow.holds Tryd.pinned (OpenSpec.ofChange propEdgesWrong)

/- THE SECOND FORM. 'bulk': how many values and letters a reading holds, each counted each time it is reached (what is shared counts as often as it is met; a slice's spare places count too). A statement '..UptoSaid' is the law's where the arguments, and the package variables that the reading takes, are together of bulk at most 1048576: NARROWER than '..Said'. Prove '..Said' where nothing that the law and all that it calls make is longer than what came in: it says more and counts as full. Else prove '..UptoSaid'. A law counts once. -/
mutual
def uptoBulk {H : Type} : DataW H → Nat
  | .lit (.string bytes) => bytes.length + 1
  | .lit _ => 1
  | .nil => 1
  | .ptr d => uptoBulk d + 1
  | .slice elems spare => uptoBulkAll elems + uptoBulkAll spare + 1
  | .agg parts => uptoBulkAll parts + 1
  | .iface _ d => uptoBulk d + 1
  | .map entries => uptoBulkEntries entries + 1
  | .held _ => 1
def uptoBulkAll {H : Type} : List (DataW H) → Nat
  | [] => 0
  | d :: r => uptoBulk d + uptoBulkAll r
def uptoBulkEntries {H : Type} : List (Lit × DataW H) → Nat
  | [] => 0
  | x :: r => uptoBulkEntry x + uptoBulkEntries r
def uptoBulkEntry {H : Type} : Lit × DataW H → Nat
  | (.string bytes, d) => bytes.length + uptoBulk d + 1
  | (_, d) => uptoBulk d + 1
 end
def uptoSmall : (H : Type) → List (DataW H) → Bool := fun _ ds => decide (uptoBulkAll ds ≤ 1048576)
def OpenSpec.upto (s : _root_.Go.ChangeSpec) : _root_.Go.OpenSpec := { _root_.Go.OpenSpec.ofChange s with cond := some uptoSmall }

/-- 'formelaw9.Props', WHERE WHAT IT READS IS OF BULK AT MOST 1048576: true; the input reads as it did. -/
def propsUptoRow : OpenClaim := { program := "ytgofhpalceopiaadoor", sum := "ea6841f98c5a0029215aa4550f5c7d27c4bf22a3b0457680884a5af0bce66124", func := "forme/formelaw9.Props", spec := "props", named := ["forme/prop.names", "forme/mode.rightToLeft", "forme/mode.edges"], apart := false, laid := [("forme/mode.edges", laid_forme_mode_edges), ("forme/mode.rightToLeft", laid_forme_mode_rightToLeft), ("forme/prop.names", laid_forme_prop_names)], narrowed := true }
def PropsUptoSaid : Prop := propsUptoRow.holds Tryd.pinned (OpenSpec.upto propsSpec)

/-- 'formelaw9.PropOne', WHERE WHAT IT READS IS OF BULK AT MOST 1048576: true; the input reads as it did. -/
def propOneUptoRow : OpenClaim := { program := "ytgofhpalceopiaadoor", sum := "ea6841f98c5a0029215aa4550f5c7d27c4bf22a3b0457680884a5af0bce66124", func := "forme/formelaw9.PropOne", spec := "propOne", named := ["forme/prop.names", "forme/mode.rightToLeft", "forme/mode.edges"], apart := false, laid := [("forme/mode.edges", laid_forme_mode_edges), ("forme/mode.rightToLeft", laid_forme_mode_rightToLeft), ("forme/prop.names", laid_forme_prop_names)], narrowed := true }
def PropOneUptoSaid : Prop := propOneUptoRow.holds Tryd.pinned (OpenSpec.upto propOneSpec)

/-- 'formelaw9.PropForms', WHERE WHAT IT READS IS OF BULK AT MOST 1048576: true; the input reads as it did. -/
def propFormsUptoRow : OpenClaim := { program := "ytgofhpalceopiaadoor", sum := "ea6841f98c5a0029215aa4550f5c7d27c4bf22a3b0457680884a5af0bce66124", func := "forme/formelaw9.PropForms", spec := "propForms", named := ["forme/prop.names", "forme/mode.rightToLeft", "forme/mode.edges"], apart := false, laid := [("forme/mode.edges", laid_forme_mode_edges), ("forme/mode.rightToLeft", laid_forme_mode_rightToLeft), ("forme/prop.names", laid_forme_prop_names)], narrowed := true }
def PropFormsUptoSaid : Prop := propFormsUptoRow.holds Tryd.pinned (OpenSpec.upto propFormsSpec)

/-- 'formelaw9.PropTurns', WHERE WHAT IT READS IS OF BULK AT MOST 1048576: true; the input reads as it did. -/
def propTurnsUptoRow : OpenClaim := { program := "ytgofhpalceopiaadoor", sum := "ea6841f98c5a0029215aa4550f5c7d27c4bf22a3b0457680884a5af0bce66124", func := "forme/formelaw9.PropTurns", spec := "propTurns", named := ["forme/prop.names", "forme/mode.rightToLeft", "forme/mode.edges"], apart := false, laid := [("forme/mode.edges", laid_forme_mode_edges), ("forme/mode.rightToLeft", laid_forme_mode_rightToLeft), ("forme/prop.names", laid_forme_prop_names)], narrowed := true }
def PropTurnsUptoSaid : Prop := propTurnsUptoRow.holds Tryd.pinned (OpenSpec.upto propTurnsSpec)

/-- 'formelaw9.PropEdges', WHERE WHAT IT READS IS OF BULK AT MOST 1048576: true; the input reads as it did. -/
def propEdgesUptoRow : OpenClaim := { program := "ytgofhpalceopiaadoor", sum := "ea6841f98c5a0029215aa4550f5c7d27c4bf22a3b0457680884a5af0bce66124", func := "forme/formelaw9.PropEdges", spec := "propEdges", named := ["forme/prop.names", "forme/mode.rightToLeft", "forme/mode.edges"], apart := false, laid := [("forme/mode.edges", laid_forme_mode_edges), ("forme/mode.rightToLeft", laid_forme_mode_rightToLeft), ("forme/prop.names", laid_forme_prop_names)], narrowed := true }
def PropEdgesUptoSaid : Prop := propEdgesUptoRow.holds Tryd.pinned (OpenSpec.upto propEdgesSpec)

end Rows
end Go.Proofs.YtgofhpalceopiaaDoor
