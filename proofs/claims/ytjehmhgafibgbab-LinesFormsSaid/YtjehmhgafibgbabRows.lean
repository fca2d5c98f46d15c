/-
  No cell of these rows narrows 'for every input' (looked for: loops, veiled, ifaces, maps, wideKeys, modest, calm, conditions, laid).
  DERIVED. THE GIVEN ROWS OF THIS SEAT. 4 by the template 'for every input the law returns true; each argument reads behind the call as it read before'; 0 by the template 'total and deterministic' (their statements: YtjehmhgafibgbabTotals.lean).
  GIVEN WITH THE SEED: the statements are not yours to turn. If you find one false, say at which input.
  Laid BY PROGRAM, IN A SANDBOX (cutbox-rows.mjs): the forced cells as the released guide's own fill.sh prints them over the translation 1ccebf43aa042461… (all of the seat's roots in one cut). By AI agents, Wed Nov 11 2026. No macro, syntax, notation, axiom, sorry.
-/
import Derived.Test.YtjehmhgafibgbabChecked
import GoSem.Claim
import GoSem.ClaimJoined
import GoSem.ClaimMapViews
import Derived.JoinedTies
import Derived.KernelRfl
namespace Go.Proofs.Ytjehmhgafibgbab
/- THE CELL 'sum', in the pinned program and in every row, IS THE sha256 OF THE DUMP (.gsa) THAT YtjehmhgafibgbabProg.lean LOADS. Nothing in Lean hashes anything: it is a label: what it is worth is what the hold of that sum in a sandbox is worth. -/
noncomputable def Try.pinned : Pinned := { name := "ytjehmhgafibgbab", sum := "1ccebf43aa042461094f417d285522ce2834ef13ebf9f4aa32c1424441f514a8", checked := Try.checked }
namespace Rows
def none {H : Type} : Left H := { results := [], args := [] }

/-- 'formelaw6.LinesGreedy': WHATEVER THE INPUT: true; the input reads as it did. -/
def linesGreedySpec : ChangeSpec := { name := "linesGreedy", fn := fun _ => fun
  | [d1, d2] => { results := [.lit (.bool true)], args := [d1, d2] }
  | _ => none }
def linesGreedyRow : OpenClaim := { program := "ytjehmhgafibgbab", sum := "1ccebf43aa042461094f417d285522ce2834ef13ebf9f4aa32c1424441f514a8", func := "forme/formelaw6.LinesGreedy", spec := "linesGreedy", apart := false }
def LinesGreedySaid : Prop := linesGreedyRow.holds Try.pinned (OpenSpec.ofChange linesGreedySpec)

/-- ITS FALSE NEIGHBOUR: 'it returns false'. Refute it at one input. -/
def linesGreedyWrong : ChangeSpec := { name := "linesGreedy", fn := fun _ => fun
  | [d1, d2] => { results := [.lit (.bool false)], args := [d1, d2] }
  | _ => none }
def LinesGreedyWrongFalsely : Prop := linesGreedyRow.holds Try.pinned (OpenSpec.ofChange linesGreedyWrong)

/-- 'formelaw6.LinesForms': WHATEVER THE INPUT: true; the input reads as it did. -/
def linesFormsSpec : ChangeSpec := { name := "linesForms", fn := fun _ => fun
  | [d1, d2] => { results := [.lit (.bool true)], args := [d1, d2] }
  | _ => none }
def linesFormsRow : OpenClaim := { program := "ytjehmhgafibgbab", sum := "1ccebf43aa042461094f417d285522ce2834ef13ebf9f4aa32c1424441f514a8", func := "forme/formelaw6.LinesForms", spec := "linesForms", apart := false }
def LinesFormsSaid : Prop := linesFormsRow.holds Try.pinned (OpenSpec.ofChange linesFormsSpec)

/-- ITS FALSE NEIGHBOUR: 'it returns false'. Refute it at one input. -/
def linesFormsWrong : ChangeSpec := { name := "linesForms", fn := fun _ => fun
  | [d1, d2] => { results := [.lit (.bool false)], args := [d1, d2] }
  | _ => none }
def LinesFormsWrongFalsely : Prop := linesFormsRow.holds Try.pinned (OpenSpec.ofChange linesFormsWrong)

/-- 'formelaw6.LinesWide': WHATEVER THE INPUT: true; the input reads as it did. -/
def linesWideSpec : ChangeSpec := { name := "linesWide", fn := fun _ => fun
  | [d1, d2, d3] => { results := [.lit (.bool true)], args := [d1, d2, d3] }
  | _ => none }
def linesWideRow : OpenClaim := { program := "ytjehmhgafibgbab", sum := "1ccebf43aa042461094f417d285522ce2834ef13ebf9f4aa32c1424441f514a8", func := "forme/formelaw6.LinesWide", spec := "linesWide", apart := false }
def LinesWideSaid : Prop := linesWideRow.holds Try.pinned (OpenSpec.ofChange linesWideSpec)

/-- ITS FALSE NEIGHBOUR: 'it returns false'. Refute it at one input. -/
def linesWideWrong : ChangeSpec := { name := "linesWide", fn := fun _ => fun
  | [d1, d2, d3] => { results := [.lit (.bool false)], args := [d1, d2, d3] }
  | _ => none }
def LinesWideWrongFalsely : Prop := linesWideRow.holds Try.pinned (OpenSpec.ofChange linesWideWrong)

/-- 'formelaw6.LinesFrom': WHATEVER THE INPUT: true; the input reads as it did. -/
def linesFromSpec : ChangeSpec := { name := "linesFrom", fn := fun _ => fun
  | [d1, d2, d3] => { results := [.lit (.bool true)], args := [d1, d2, d3] }
  | _ => none }
def linesFromRow : OpenClaim := { program := "ytjehmhgafibgbab", sum := "1ccebf43aa042461094f417d285522ce2834ef13ebf9f4aa32c1424441f514a8", func := "forme/formelaw6.LinesFrom", spec := "linesFrom", apart := false }
def LinesFromSaid : Prop := linesFromRow.holds Try.pinned (OpenSpec.ofChange linesFromSpec)

/-- ITS FALSE NEIGHBOUR: 'it returns false'. Refute it at one input. -/
def linesFromWrong : ChangeSpec := { name := "linesFrom", fn := fun _ => fun
  | [d1, d2, d3] => { results := [.lit (.bool false)], args := [d1, d2, d3] }
  | _ => none }
def LinesFromWrongFalsely : Prop := linesFromRow.holds Try.pinned (OpenSpec.ofChange linesFromWrong)

/- THE SECOND FORM. 'bulk': how many values and letters a reading holds, each counted each time it is reached (what is shared counts as often as it is met; a slice's spare places count too). A statement '..UptoSaid' is the law's where the arguments, and the package variables that the reading takes, are together of bulk at most 1048576: NARROWER than '..Said'. Prove '..Said' where nothing that the law and all that it calls make is longer than what came in: it says more and counts as full. Else prove '..UptoSaid'. A law counts once. -/
mutual
def uptoBulk {H : Type} : DataW H → Nat
  | .lit (.string bytes) => bytes.length + 1
  | .lit _ => 1
  | .nil => 1
  | .ptr d => uptoBulk d + 1
  | .slice elems spare => uptoBulkAll elems + uptoBulkAll spare + 1
  | .agg parts => uptoBulkAll parts + 1
  | .iface _ d => uptoBulk d + 1
  | .map entries => uptoBulkEntries entries + 1
  | .held _ => 1
def uptoBulkAll {H : Type} : List (DataW H) → Nat
  | [] => 0
  | d :: r => uptoBulk d + uptoBulkAll r
def uptoBulkEntries {H : Type} : List (Lit × DataW H) → Nat
  | [] => 0
  | x :: r => uptoBulkEntry x + uptoBulkEntries r
def uptoBulkEntry {H : Type} : Lit × DataW H → Nat
  | (.string bytes, d) => bytes.length + uptoBulk d + 1
  | (_, d) => uptoBulk d + 1
 end
def uptoSmall : (H : Type) → List (DataW H) → Bool := fun _ ds => decide (uptoBulkAll ds ≤ 1048576)
def OpenSpec.upto (s : _root_.Go.ChangeSpec) : _root_.Go.OpenSpec := { _root_.Go.OpenSpec.ofChange s with cond := some uptoSmall }

/-- 'formelaw6.LinesGreedy', WHERE WHAT IT READS IS OF BULK AT MOST 1048576: true; the input reads as it did. -/
def linesGreedyUptoRow : OpenClaim := { program := "ytjehmhgafibgbab", sum := "1ccebf43aa042461094f417d285522ce2834ef13ebf9f4aa32c1424441f514a8", func := "forme/formelaw6.LinesGreedy", spec := "linesGreedy", apart := false, narrowed := true }
def LinesGreedyUptoSaid : Prop := linesGreedyUptoRow.holds Try.pinned (OpenSpec.upto linesGreedySpec)

/-- 'formelaw6.LinesForms', WHERE WHAT IT READS IS OF BULK AT MOST 1048576: true; the input reads as it did. -/
def linesFormsUptoRow : OpenClaim := { program := "ytjehmhgafibgbab", sum := "1ccebf43aa042461094f417d285522ce2834ef13ebf9f4aa32c1424441f514a8", func := "forme/formelaw6.LinesForms", spec := "linesForms", apart := false, narrowed := true }
def LinesFormsUptoSaid : Prop := linesFormsUptoRow.holds Try.pinned (OpenSpec.upto linesFormsSpec)

/-- 'formelaw6.LinesWide', WHERE WHAT IT READS IS OF BULK AT MOST 1048576: true; the input reads as it did. -/
def linesWideUptoRow : OpenClaim := { program := "ytjehmhgafibgbab", sum := "1ccebf43aa042461094f417d285522ce2834ef13ebf9f4aa32c1424441f514a8", func := "forme/formelaw6.LinesWide", spec := "linesWide", apart := false, narrowed := true }
def LinesWideUptoSaid : Prop := linesWideUptoRow.holds Try.pinned (OpenSpec.upto linesWideSpec)

/-- 'formelaw6.LinesFrom', WHERE WHAT IT READS IS OF BULK AT MOST 1048576: true; the input reads as it did. -/
def linesFromUptoRow : OpenClaim := { program := "ytjehmhgafibgbab", sum := "1ccebf43aa042461094f417d285522ce2834ef13ebf9f4aa32c1424441f514a8", func := "forme/formelaw6.LinesFrom", spec := "linesFrom", apart := false, narrowed := true }
def LinesFromUptoSaid : Prop := linesFromUptoRow.holds Try.pinned (OpenSpec.upto linesFromSpec)

end Rows
end Go.Proofs.Ytjehmhgafibgbab
