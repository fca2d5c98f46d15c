/-
  No cell of these rows narrows 'for every input' (looked for: loops, veiled, ifaces, maps, wideKeys, modest, calm, conditions, laid).
  DERIVED. THE GIVEN ROWS OF THIS SEAT. 7 by the template 'for every input the law returns true; each argument reads behind the call as it read before'; 0 by the template 'total and deterministic' (their statements: YtjehmhgafibgbaaTotals.lean).
  GIVEN WITH THE SEED: the statements are not yours to turn. If you find one false, say at which input.
  Laid BY PROGRAM, IN A SANDBOX (cutbox-rows.mjs): the forced cells as the released guide's own fill.sh prints them over the translation 2fd947b6ea5f39c1… (all of the seat's roots in one cut). By AI agents, Wed Nov 11 2026. No macro, syntax, notation, axiom, sorry.
-/
import Derived.Test.YtjehmhgafibgbaaChecked
import GoSem.Claim
import GoSem.ClaimJoined
import GoSem.ClaimMapViews
import Derived.JoinedTies
import Derived.KernelRfl
namespace Go.Proofs.Ytjehmhgafibgbaa
/- THE CELL 'sum', in the pinned program and in every row, IS THE sha256 OF THE DUMP (.gsa) THAT YtjehmhgafibgbaaProg.lean LOADS. Nothing in Lean hashes anything: it is a label: what it is worth is what the hold of that sum in a sandbox is worth. -/
noncomputable def Try.pinned : Pinned := { name := "ytjehmhgafibgbaa", sum := "2fd947b6ea5f39c1a3084f7c79ff2073d62899bc653ef74e39a5b2a4bdfc0770", checked := Try.checked }
namespace Rows
def none {H : Type} : Left H := { results := [], args := [] }

/-- 'formelaw4.GlyphParts': WHATEVER THE INPUT: true; the input reads as it did. -/
def glyphPartsSpec : ChangeSpec := { name := "glyphParts", fn := fun _ => fun
  | [d1, d2] => { results := [.lit (.bool true)], args := [d1, d2] }
  | _ => none }
def glyphPartsRow : OpenClaim := { program := "ytjehmhgafibgbaa", sum := "2fd947b6ea5f39c1a3084f7c79ff2073d62899bc653ef74e39a5b2a4bdfc0770", func := "forme/formelaw4.GlyphParts", spec := "glyphParts", apart := false }
def GlyphPartsSaid : Prop := glyphPartsRow.holds Try.pinned (OpenSpec.ofChange glyphPartsSpec)

/-- ITS FALSE NEIGHBOUR: 'it returns false'. Refute it at one input. -/
def glyphPartsWrong : ChangeSpec := { name := "glyphParts", fn := fun _ => fun
  | [d1, d2] => { results := [.lit (.bool false)], args := [d1, d2] }
  | _ => none }
def GlyphPartsWrongFalsely : Prop := glyphPartsRow.holds Try.pinned (OpenSpec.ofChange glyphPartsWrong)

/-- 'formelaw5.Words': WHATEVER THE INPUT: true; the input reads as it did. -/
def wordsSpec : ChangeSpec := { name := "words", fn := fun _ => fun
  | [d1, d2] => { results := [.lit (.bool true)], args := [d1, d2] }
  | _ => none }
def wordsRow : OpenClaim := { program := "ytjehmhgafibgbaa", sum := "2fd947b6ea5f39c1a3084f7c79ff2073d62899bc653ef74e39a5b2a4bdfc0770", func := "forme/formelaw5.Words", spec := "words", apart := false }
def WordsSaid : Prop := wordsRow.holds Try.pinned (OpenSpec.ofChange wordsSpec)

/-- ITS FALSE NEIGHBOUR: 'it returns false'. Refute it at one input. -/
def wordsWrong : ChangeSpec := { name := "words", fn := fun _ => fun
  | [d1, d2] => { results := [.lit (.bool false)], args := [d1, d2] }
  | _ => none }
def WordsWrongFalsely : Prop := wordsRow.holds Try.pinned (OpenSpec.ofChange wordsWrong)

/-- 'formelaw5.WordsJoin': WHATEVER THE INPUT: true; the input reads as it did. -/
def wordsJoinSpec : ChangeSpec := { name := "wordsJoin", fn := fun _ => fun
  | [d] => { results := [.lit (.bool true)], args := [d] }
  | _ => none }
def wordsJoinRow : OpenClaim := { program := "ytjehmhgafibgbaa", sum := "2fd947b6ea5f39c1a3084f7c79ff2073d62899bc653ef74e39a5b2a4bdfc0770", func := "forme/formelaw5.WordsJoin", spec := "wordsJoin", apart := false }
def WordsJoinSaid : Prop := wordsJoinRow.holds Try.pinned (OpenSpec.ofChange wordsJoinSpec)

/-- ITS FALSE NEIGHBOUR: 'it returns false'. Refute it at one input. -/
def wordsJoinWrong : ChangeSpec := { name := "wordsJoin", fn := fun _ => fun
  | [d] => { results := [.lit (.bool false)], args := [d] }
  | _ => none }
def WordsJoinWrongFalsely : Prop := wordsJoinRow.holds Try.pinned (OpenSpec.ofChange wordsJoinWrong)

/-- 'formelaw5.WordsForms': WHATEVER THE INPUT: true; the input reads as it did. -/
def wordsFormsSpec : ChangeSpec := { name := "wordsForms", fn := fun _ => fun
  | [d] => { results := [.lit (.bool true)], args := [d] }
  | _ => none }
def wordsFormsRow : OpenClaim := { program := "ytjehmhgafibgbaa", sum := "2fd947b6ea5f39c1a3084f7c79ff2073d62899bc653ef74e39a5b2a4bdfc0770", func := "forme/formelaw5.WordsForms", spec := "wordsForms", apart := false }
def WordsFormsSaid : Prop := wordsFormsRow.holds Try.pinned (OpenSpec.ofChange wordsFormsSpec)

/-- ITS FALSE NEIGHBOUR: 'it returns false'. Refute it at one input. -/
def wordsFormsWrong : ChangeSpec := { name := "wordsForms", fn := fun _ => fun
  | [d] => { results := [.lit (.bool false)], args := [d] }
  | _ => none }
def WordsFormsWrongFalsely : Prop := wordsFormsRow.holds Try.pinned (OpenSpec.ofChange wordsFormsWrong)

/-- 'formelaw5.WordsCount': WHATEVER THE INPUT: true; the input reads as it did. -/
def wordsCountSpec : ChangeSpec := { name := "wordsCount", fn := fun _ => fun
  | [d] => { results := [.lit (.bool true)], args := [d] }
  | _ => none }
def wordsCountRow : OpenClaim := { program := "ytjehmhgafibgbaa", sum := "2fd947b6ea5f39c1a3084f7c79ff2073d62899bc653ef74e39a5b2a4bdfc0770", func := "forme/formelaw5.WordsCount", spec := "wordsCount", apart := false }
def WordsCountSaid : Prop := wordsCountRow.holds Try.pinned (OpenSpec.ofChange wordsCountSpec)

/-- ITS FALSE NEIGHBOUR: 'it returns false'. Refute it at one input. -/
def wordsCountWrong : ChangeSpec := { name := "wordsCount", fn := fun _ => fun
  | [d] => { results := [.lit (.bool false)], args := [d] }
  | _ => none }
def WordsCountWrongFalsely : Prop := wordsCountRow.holds Try.pinned (OpenSpec.ofChange wordsCountWrong)

/-- 'formelaw5.WordsMarks': WHATEVER THE INPUT: true; the input reads as it did. -/
def wordsMarksSpec : ChangeSpec := { name := "wordsMarks", fn := fun _ => fun
  | [d1, d2] => { results := [.lit (.bool true)], args := [d1, d2] }
  | _ => none }
def wordsMarksRow : OpenClaim := { program := "ytjehmhgafibgbaa", sum := "2fd947b6ea5f39c1a3084f7c79ff2073d62899bc653ef74e39a5b2a4bdfc0770", func := "forme/formelaw5.WordsMarks", spec := "wordsMarks", apart := false }
def WordsMarksSaid : Prop := wordsMarksRow.holds Try.pinned (OpenSpec.ofChange wordsMarksSpec)

/-- ITS FALSE NEIGHBOUR: 'it returns false'. Refute it at one input. -/
def wordsMarksWrong : ChangeSpec := { name := "wordsMarks", fn := fun _ => fun
  | [d1, d2] => { results := [.lit (.bool false)], args := [d1, d2] }
  | _ => none }
def WordsMarksWrongFalsely : Prop := wordsMarksRow.holds Try.pinned (OpenSpec.ofChange wordsMarksWrong)

/-- 'formelaw6.Lines': WHATEVER THE INPUT: true; the input reads as it did. -/
def linesSpec : ChangeSpec := { name := "lines", fn := fun _ => fun
  | [d1, d2, d3] => { results := [.lit (.bool true)], args := [d1, d2, d3] }
  | _ => none }
def linesRow : OpenClaim := { program := "ytjehmhgafibgbaa", sum := "2fd947b6ea5f39c1a3084f7c79ff2073d62899bc653ef74e39a5b2a4bdfc0770", func := "forme/formelaw6.Lines", spec := "lines", apart := false }
def LinesSaid : Prop := linesRow.holds Try.pinned (OpenSpec.ofChange linesSpec)

/-- ITS FALSE NEIGHBOUR: 'it returns false'. Refute it at one input. -/
def linesWrong : ChangeSpec := { name := "lines", fn := fun _ => fun
  | [d1, d2, d3] => { results := [.lit (.bool false)], args := [d1, d2, d3] }
  | _ => none }
def LinesWrongFalsely : Prop := linesRow.holds Try.pinned (OpenSpec.ofChange linesWrong)

/- THE SECOND FORM. 'bulk': how many values and letters a reading holds, each counted each time it is reached (what is shared counts as often as it is met; a slice's spare places count too). A statement '..UptoSaid' is the law's where the arguments, and the package variables that the reading takes, are together of bulk at most 1048576: NARROWER than '..Said'. Prove '..Said' where nothing that the law and all that it calls make is longer than what came in: it says more and counts as full. Else prove '..UptoSaid'. A law counts once. -/
mutual
def uptoBulk {H : Type} : DataW H → Nat
  | .lit (.string bytes) => bytes.length + 1
  | .lit _ => 1
  | .nil => 1
  | .ptr d => uptoBulk d + 1
  | .slice elems spare => uptoBulkAll elems + uptoBulkAll spare + 1
  | .agg parts => uptoBulkAll parts + 1
  | .iface _ d => uptoBulk d + 1
  | .map entries => uptoBulkEntries entries + 1
  | .held _ => 1
def uptoBulkAll {H : Type} : List (DataW H) → Nat
  | [] => 0
  | d :: r => uptoBulk d + uptoBulkAll r
def uptoBulkEntries {H : Type} : List (Lit × DataW H) → Nat
  | [] => 0
  | x :: r => uptoBulkEntry x + uptoBulkEntries r
def uptoBulkEntry {H : Type} : Lit × DataW H → Nat
  | (.string bytes, d) => bytes.length + uptoBulk d + 1
  | (_, d) => uptoBulk d + 1
 end
def uptoSmall : (H : Type) → List (DataW H) → Bool := fun _ ds => decide (uptoBulkAll ds ≤ 1048576)
def OpenSpec.upto (s : _root_.Go.ChangeSpec) : _root_.Go.OpenSpec := { _root_.Go.OpenSpec.ofChange s with cond := some uptoSmall }

/-- 'formelaw4.GlyphParts', WHERE WHAT IT READS IS OF BULK AT MOST 1048576: true; the input reads as it did. -/
def glyphPartsUptoRow : OpenClaim := { program := "ytjehmhgafibgbaa", sum := "2fd947b6ea5f39c1a3084f7c79ff2073d62899bc653ef74e39a5b2a4bdfc0770", func := "forme/formelaw4.GlyphParts", spec := "glyphParts", apart := false, narrowed := true }
def GlyphPartsUptoSaid : Prop := glyphPartsUptoRow.holds Try.pinned (OpenSpec.upto glyphPartsSpec)

/-- 'formelaw5.Words', WHERE WHAT IT READS IS OF BULK AT MOST 1048576: true; the input reads as it did. -/
def wordsUptoRow : OpenClaim := { program := "ytjehmhgafibgbaa", sum := "2fd947b6ea5f39c1a3084f7c79ff2073d62899bc653ef74e39a5b2a4bdfc0770", func := "forme/formelaw5.Words", spec := "words", apart := false, narrowed := true }
def WordsUptoSaid : Prop := wordsUptoRow.holds Try.pinned (OpenSpec.upto wordsSpec)

/-- 'formelaw5.WordsJoin', WHERE WHAT IT READS IS OF BULK AT MOST 1048576: true; the input reads as it did. -/
def wordsJoinUptoRow : OpenClaim := { program := "ytjehmhgafibgbaa", sum := "2fd947b6ea5f39c1a3084f7c79ff2073d62899bc653ef74e39a5b2a4bdfc0770", func := "forme/formelaw5.WordsJoin", spec := "wordsJoin", apart := false, narrowed := true }
def WordsJoinUptoSaid : Prop := wordsJoinUptoRow.holds Try.pinned (OpenSpec.upto wordsJoinSpec)

/-- 'formelaw5.WordsForms', WHERE WHAT IT READS IS OF BULK AT MOST 1048576: true; the input reads as it did. -/
def wordsFormsUptoRow : OpenClaim := { program := "ytjehmhgafibgbaa", sum := "2fd947b6ea5f39c1a3084f7c79ff2073d62899bc653ef74e39a5b2a4bdfc0770", func := "forme/formelaw5.WordsForms", spec := "wordsForms", apart := false, narrowed := true }
def WordsFormsUptoSaid : Prop := wordsFormsUptoRow.holds Try.pinned (OpenSpec.upto wordsFormsSpec)

/-- 'formelaw5.WordsCount', WHERE WHAT IT READS IS OF BULK AT MOST 1048576: true; the input reads as it did. -/
def wordsCountUptoRow : OpenClaim := { program := "ytjehmhgafibgbaa", sum := "2fd947b6ea5f39c1a3084f7c79ff2073d62899bc653ef74e39a5b2a4bdfc0770", func := "forme/formelaw5.WordsCount", spec := "wordsCount", apart := false, narrowed := true }
def WordsCountUptoSaid : Prop := wordsCountUptoRow.holds Try.pinned (OpenSpec.upto wordsCountSpec)

/-- 'formelaw5.WordsMarks', WHERE WHAT IT READS IS OF BULK AT MOST 1048576: true; the input reads as it did. -/
def wordsMarksUptoRow : OpenClaim := { program := "ytjehmhgafibgbaa", sum := "2fd947b6ea5f39c1a3084f7c79ff2073d62899bc653ef74e39a5b2a4bdfc0770", func := "forme/formelaw5.WordsMarks", spec := "wordsMarks", apart := false, narrowed := true }
def WordsMarksUptoSaid : Prop := wordsMarksUptoRow.holds Try.pinned (OpenSpec.upto wordsMarksSpec)

/-- 'formelaw6.Lines', WHERE WHAT IT READS IS OF BULK AT MOST 1048576: true; the input reads as it did. -/
def linesUptoRow : OpenClaim := { program := "ytjehmhgafibgbaa", sum := "2fd947b6ea5f39c1a3084f7c79ff2073d62899bc653ef74e39a5b2a4bdfc0770", func := "forme/formelaw6.Lines", spec := "lines", apart := false, narrowed := true }
def LinesUptoSaid : Prop := linesUptoRow.holds Try.pinned (OpenSpec.upto linesSpec)

end Rows
end Go.Proofs.Ytjehmhgafibgbaa
