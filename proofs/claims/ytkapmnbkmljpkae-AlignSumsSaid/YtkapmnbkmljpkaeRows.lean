/-
  No cell of these rows narrows 'for every input' (looked for: loops, veiled, ifaces, maps, wideKeys, modest, calm, conditions, laid).
  DERIVED. THE GIVEN ROWS OF THIS SEAT. 5 by the template 'for every input the law returns true; each argument reads behind the call as it read before'; 0 by the template 'total and deterministic' (their statements: YtkapmnbkmljpkaeTotals.lean).
  GIVEN WITH THE SEED: the statements are not yours to turn. If you find one false, say at which input.
  Laid BY PROGRAM, IN A SANDBOX (cutbox-rows.mjs): the forced cells as the released guide's own fill.sh prints them over the translation 4a0b3590d28cabb5… (all of the seat's roots in one cut). By AI agents, Wed Nov 11 2026. No macro, syntax, notation, axiom, sorry.
-/
import Derived.Test.YtkapmnbkmljpkaeChecked
import GoSem.Claim
import GoSem.ClaimJoined
import GoSem.ClaimMapViews
import Derived.JoinedTies
import Derived.KernelRfl
namespace Go.Proofs.Ytkapmnbkmljpkae
/- THE CELL 'sum', in the pinned program and in every row, IS THE sha256 OF THE DUMP (.gsa) THAT YtkapmnbkmljpkaeProg.lean LOADS. Nothing in Lean hashes anything: it is a label: what it is worth is what the hold of that sum in a sandbox is worth. -/
noncomputable def Try.pinned : Pinned := { name := "ytkapmnbkmljpkae", sum := "4a0b3590d28cabb5f21236948f21a99de7f47fe2746fd06cd52afead3fa1e034", checked := Try.checked }
namespace Rows
def none {H : Type} : Left H := { results := [], args := [] }

/-- 'formelaw7.Aligns': WHATEVER THE INPUT: true; the input reads as it did. -/
def alignsSpec : ChangeSpec := { name := "aligns", fn := fun _ => fun
  | [d1, d2, d3, d4, d5] => { results := [.lit (.bool true)], args := [d1, d2, d3, d4, d5] }
  | _ => none }
def alignsRow : OpenClaim := { program := "ytkapmnbkmljpkae", sum := "4a0b3590d28cabb5f21236948f21a99de7f47fe2746fd06cd52afead3fa1e034", func := "forme/formelaw7.Aligns", spec := "aligns", apart := false }
def AlignsSaid : Prop := alignsRow.holds Try.pinned (OpenSpec.ofChange alignsSpec)

/-- ITS FALSE NEIGHBOUR: 'it returns false'. Refute it at one input. -/
def alignsWrong : ChangeSpec := { name := "aligns", fn := fun _ => fun
  | [d1, d2, d3, d4, d5] => { results := [.lit (.bool false)], args := [d1, d2, d3, d4, d5] }
  | _ => none }
def AlignsWrongFalsely : Prop := alignsRow.holds Try.pinned (OpenSpec.ofChange alignsWrong)

/-- 'formelaw7.AlignSums': WHATEVER THE INPUT: true; the input reads as it did. -/
def alignSumsSpec : ChangeSpec := { name := "alignSums", fn := fun _ => fun
  | [d1, d2, d3, d4] => { results := [.lit (.bool true)], args := [d1, d2, d3, d4] }
  | _ => none }
def alignSumsRow : OpenClaim := { program := "ytkapmnbkmljpkae", sum := "4a0b3590d28cabb5f21236948f21a99de7f47fe2746fd06cd52afead3fa1e034", func := "forme/formelaw7.AlignSums", spec := "alignSums", apart := false }
def AlignSumsSaid : Prop := alignSumsRow.holds Try.pinned (OpenSpec.ofChange alignSumsSpec)

/-- ITS FALSE NEIGHBOUR: 'it returns false'. Refute it at one input. -/
def alignSumsWrong : ChangeSpec := { name := "alignSums", fn := fun _ => fun
  | [d1, d2, d3, d4] => { results := [.lit (.bool false)], args := [d1, d2, d3, d4] }
  | _ => none }
def AlignSumsWrongFalsely : Prop := alignSumsRow.holds Try.pinned (OpenSpec.ofChange alignSumsWrong)

/-- 'formelaw7.AlignForms': WHATEVER THE INPUT: true; the input reads as it did. -/
def alignFormsSpec : ChangeSpec := { name := "alignForms", fn := fun _ => fun
  | [d1, d2] => { results := [.lit (.bool true)], args := [d1, d2] }
  | _ => none }
def alignFormsRow : OpenClaim := { program := "ytkapmnbkmljpkae", sum := "4a0b3590d28cabb5f21236948f21a99de7f47fe2746fd06cd52afead3fa1e034", func := "forme/formelaw7.AlignForms", spec := "alignForms", apart := false }
def AlignFormsSaid : Prop := alignFormsRow.holds Try.pinned (OpenSpec.ofChange alignFormsSpec)

/-- ITS FALSE NEIGHBOUR: 'it returns false'. Refute it at one input. -/
def alignFormsWrong : ChangeSpec := { name := "alignForms", fn := fun _ => fun
  | [d1, d2] => { results := [.lit (.bool false)], args := [d1, d2] }
  | _ => none }
def AlignFormsWrongFalsely : Prop := alignFormsRow.holds Try.pinned (OpenSpec.ofChange alignFormsWrong)

/-- 'formelaw7.AlignSides': WHATEVER THE INPUT: true; the input reads as it did. -/
def alignSidesSpec : ChangeSpec := { name := "alignSides", fn := fun _ => fun
  | [d1, d2, d3] => { results := [.lit (.bool true)], args := [d1, d2, d3] }
  | _ => none }
def alignSidesRow : OpenClaim := { program := "ytkapmnbkmljpkae", sum := "4a0b3590d28cabb5f21236948f21a99de7f47fe2746fd06cd52afead3fa1e034", func := "forme/formelaw7.AlignSides", spec := "alignSides", apart := false }
def AlignSidesSaid : Prop := alignSidesRow.holds Try.pinned (OpenSpec.ofChange alignSidesSpec)

/-- ITS FALSE NEIGHBOUR: 'it returns false'. Refute it at one input. -/
def alignSidesWrong : ChangeSpec := { name := "alignSides", fn := fun _ => fun
  | [d1, d2, d3] => { results := [.lit (.bool false)], args := [d1, d2, d3] }
  | _ => none }
def AlignSidesWrongFalsely : Prop := alignSidesRow.holds Try.pinned (OpenSpec.ofChange alignSidesWrong)

/-- 'formelaw7.AlignLast': WHATEVER THE INPUT: true; the input reads as it did. -/
def alignLastSpec : ChangeSpec := { name := "alignLast", fn := fun _ => fun
  | [d1, d2, d3] => { results := [.lit (.bool true)], args := [d1, d2, d3] }
  | _ => none }
def alignLastRow : OpenClaim := { program := "ytkapmnbkmljpkae", sum := "4a0b3590d28cabb5f21236948f21a99de7f47fe2746fd06cd52afead3fa1e034", func := "forme/formelaw7.AlignLast", spec := "alignLast", apart := false }
def AlignLastSaid : Prop := alignLastRow.holds Try.pinned (OpenSpec.ofChange alignLastSpec)

/-- ITS FALSE NEIGHBOUR: 'it returns false'. Refute it at one input. -/
def alignLastWrong : ChangeSpec := { name := "alignLast", fn := fun _ => fun
  | [d1, d2, d3] => { results := [.lit (.bool false)], args := [d1, d2, d3] }
  | _ => none }
def AlignLastWrongFalsely : Prop := alignLastRow.holds Try.pinned (OpenSpec.ofChange alignLastWrong)

/- THE SECOND FORM. 'bulk': how many values and letters a reading holds, each counted each time it is reached (what is shared counts as often as it is met; a slice's spare places count too). A statement '..UptoSaid' is the law's where the arguments, and the package variables that the reading takes, are together of bulk at most 1048576: NARROWER than '..Said'. Prove '..Said' where nothing that the law and all that it calls make is longer than what came in: it says more and counts as full. Else prove '..UptoSaid'. A law counts once. -/
mutual
def uptoBulk {H : Type} : DataW H → Nat
  | .lit (.string bytes) => bytes.length + 1
  | .lit _ => 1
  | .nil => 1
  | .ptr d => uptoBulk d + 1
  | .slice elems spare => uptoBulkAll elems + uptoBulkAll spare + 1
  | .agg parts => uptoBulkAll parts + 1
  | .iface _ d => uptoBulk d + 1
  | .map entries => uptoBulkEntries entries + 1
  | .held _ => 1
def uptoBulkAll {H : Type} : List (DataW H) → Nat
  | [] => 0
  | d :: r => uptoBulk d + uptoBulkAll r
def uptoBulkEntries {H : Type} : List (Lit × DataW H) → Nat
  | [] => 0
  | x :: r => uptoBulkEntry x + uptoBulkEntries r
def uptoBulkEntry {H : Type} : Lit × DataW H → Nat
  | (.string bytes, d) => bytes.length + uptoBulk d + 1
  | (_, d) => uptoBulk d + 1
 end
def uptoSmall : (H : Type) → List (DataW H) → Bool := fun _ ds => decide (uptoBulkAll ds ≤ 1048576)
def OpenSpec.upto (s : _root_.Go.ChangeSpec) : _root_.Go.OpenSpec := { _root_.Go.OpenSpec.ofChange s with cond := some uptoSmall }

/-- 'formelaw7.Aligns', WHERE WHAT IT READS IS OF BULK AT MOST 1048576: true; the input reads as it did. -/
def alignsUptoRow : OpenClaim := { program := "ytkapmnbkmljpkae", sum := "4a0b3590d28cabb5f21236948f21a99de7f47fe2746fd06cd52afead3fa1e034", func := "forme/formelaw7.Aligns", spec := "aligns", apart := false, narrowed := true }
def AlignsUptoSaid : Prop := alignsUptoRow.holds Try.pinned (OpenSpec.upto alignsSpec)

/-- 'formelaw7.AlignSums', WHERE WHAT IT READS IS OF BULK AT MOST 1048576: true; the input reads as it did. -/
def alignSumsUptoRow : OpenClaim := { program := "ytkapmnbkmljpkae", sum := "4a0b3590d28cabb5f21236948f21a99de7f47fe2746fd06cd52afead3fa1e034", func := "forme/formelaw7.AlignSums", spec := "alignSums", apart := false, narrowed := true }
def AlignSumsUptoSaid : Prop := alignSumsUptoRow.holds Try.pinned (OpenSpec.upto alignSumsSpec)

/-- 'formelaw7.AlignForms', WHERE WHAT IT READS IS OF BULK AT MOST 1048576: true; the input reads as it did. -/
def alignFormsUptoRow : OpenClaim := { program := "ytkapmnbkmljpkae", sum := "4a0b3590d28cabb5f21236948f21a99de7f47fe2746fd06cd52afead3fa1e034", func := "forme/formelaw7.AlignForms", spec := "alignForms", apart := false, narrowed := true }
def AlignFormsUptoSaid : Prop := alignFormsUptoRow.holds Try.pinned (OpenSpec.upto alignFormsSpec)

/-- 'formelaw7.AlignSides', WHERE WHAT IT READS IS OF BULK AT MOST 1048576: true; the input reads as it did. -/
def alignSidesUptoRow : OpenClaim := { program := "ytkapmnbkmljpkae", sum := "4a0b3590d28cabb5f21236948f21a99de7f47fe2746fd06cd52afead3fa1e034", func := "forme/formelaw7.AlignSides", spec := "alignSides", apart := false, narrowed := true }
def AlignSidesUptoSaid : Prop := alignSidesUptoRow.holds Try.pinned (OpenSpec.upto alignSidesSpec)

/-- 'formelaw7.AlignLast', WHERE WHAT IT READS IS OF BULK AT MOST 1048576: true; the input reads as it did. -/
def alignLastUptoRow : OpenClaim := { program := "ytkapmnbkmljpkae", sum := "4a0b3590d28cabb5f21236948f21a99de7f47fe2746fd06cd52afead3fa1e034", func := "forme/formelaw7.AlignLast", spec := "alignLast", apart := false, narrowed := true }
def AlignLastUptoSaid : Prop := alignLastUptoRow.holds Try.pinned (OpenSpec.upto alignLastSpec)

end Rows
end Go.Proofs.Ytkapmnbkmljpkae
