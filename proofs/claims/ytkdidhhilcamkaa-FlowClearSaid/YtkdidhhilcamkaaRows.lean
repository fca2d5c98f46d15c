/-
  No cell of these rows narrows 'for every input' (looked for: loops, veiled, ifaces, maps, wideKeys, modest, calm, conditions, laid).
  DERIVED. THE GIVEN ROWS OF THIS SEAT. 10 by the template 'for every input the law returns true; each argument reads behind the call as it read before'; 0 by the template 'total and deterministic' (their statements: YtkdidhhilcamkaaTotals.lean).
  GIVEN WITH THE SEED: the statements are not yours to turn. If you find one false, say at which input.
  Laid BY PROGRAM, IN A SANDBOX (cutbox-rows.mjs): the forced cells as the released guide's own fill.sh prints them over the translation 8b6321b4a6999bf0… (all of the seat's roots in one cut). By AI agents, Wed Nov 11 2026. No macro, syntax, notation, axiom, sorry.
-/
import Derived.Test.YtkdidhhilcamkaaChecked
import GoSem.Claim
import GoSem.ClaimJoined
import GoSem.ClaimMapViews
import Derived.JoinedTies
import Derived.KernelRfl
namespace Go.Proofs.Ytkdidhhilcamkaa
/- THE CELL 'sum', in the pinned program and in every row, IS THE sha256 OF THE DUMP (.gsa) THAT YtkdidhhilcamkaaProg.lean LOADS. Nothing in Lean hashes anything: it is a label: what it is worth is what the hold of that sum in a sandbox is worth. -/
noncomputable def Try.pinned : Pinned := { name := "ytkdidhhilcamkaa", sum := "8b6321b4a6999bf037a3170110417da672a77580e1a38999c34fcb0b7884b394", checked := Try.checked }
namespace Rows
def none {H : Type} : Left H := { results := [], args := [] }

/-- 'formelaw17.Places': WHATEVER THE INPUT: true; the input reads as it did. -/
def placesSpec : ChangeSpec := { name := "places", fn := fun _ => fun
  | [d1, d2, d3, d4, d5, d6] => { results := [.lit (.bool true)], args := [d1, d2, d3, d4, d5, d6] }
  | _ => none }
def placesRow : OpenClaim := { program := "ytkdidhhilcamkaa", sum := "8b6321b4a6999bf037a3170110417da672a77580e1a38999c34fcb0b7884b394", func := "forme/formelaw17.Places", spec := "places", unfollowed := true, recurses := true, apart := false }
def PlacesSaid : Prop := placesRow.holds Try.pinned (OpenSpec.ofChange placesSpec)

/-- ITS FALSE NEIGHBOUR: 'it returns false'. Refute it at one input. -/
def placesWrong : ChangeSpec := { name := "places", fn := fun _ => fun
  | [d1, d2, d3, d4, d5, d6] => { results := [.lit (.bool false)], args := [d1, d2, d3, d4, d5, d6] }
  | _ => none }
def PlacesWrongFalsely : Prop := placesRow.holds Try.pinned (OpenSpec.ofChange placesWrong)

/-- 'formelaw17.PlaceRules': WHATEVER THE INPUT: true; the input reads as it did. -/
def placeRulesSpec : ChangeSpec := { name := "placeRules", fn := fun _ => fun
  | [d1, d2] => { results := [.lit (.bool true)], args := [d1, d2] }
  | _ => none }
def placeRulesRow : OpenClaim := { program := "ytkdidhhilcamkaa", sum := "8b6321b4a6999bf037a3170110417da672a77580e1a38999c34fcb0b7884b394", func := "forme/formelaw17.PlaceRules", spec := "placeRules", unfollowed := true, recurses := true, apart := false }
def PlaceRulesSaid : Prop := placeRulesRow.holds Try.pinned (OpenSpec.ofChange placeRulesSpec)

/-- ITS FALSE NEIGHBOUR: 'it returns false'. Refute it at one input. -/
def placeRulesWrong : ChangeSpec := { name := "placeRules", fn := fun _ => fun
  | [d1, d2] => { results := [.lit (.bool false)], args := [d1, d2] }
  | _ => none }
def PlaceRulesWrongFalsely : Prop := placeRulesRow.holds Try.pinned (OpenSpec.ofChange placeRulesWrong)

/-- 'formelaw17.PlaceForms': WHATEVER THE INPUT: true; the input reads as it did. -/
def placeFormsSpec : ChangeSpec := { name := "placeForms", fn := fun _ => fun
  | [d1, d2] => { results := [.lit (.bool true)], args := [d1, d2] }
  | _ => none }
def placeFormsRow : OpenClaim := { program := "ytkdidhhilcamkaa", sum := "8b6321b4a6999bf037a3170110417da672a77580e1a38999c34fcb0b7884b394", func := "forme/formelaw17.PlaceForms", spec := "placeForms", unfollowed := true, recurses := true, apart := false }
def PlaceFormsSaid : Prop := placeFormsRow.holds Try.pinned (OpenSpec.ofChange placeFormsSpec)

/-- ITS FALSE NEIGHBOUR: 'it returns false'. Refute it at one input. -/
def placeFormsWrong : ChangeSpec := { name := "placeForms", fn := fun _ => fun
  | [d1, d2] => { results := [.lit (.bool false)], args := [d1, d2] }
  | _ => none }
def PlaceFormsWrongFalsely : Prop := placeFormsRow.holds Try.pinned (OpenSpec.ofChange placeFormsWrong)

/-- 'formelaw17.PlaceSides': WHATEVER THE INPUT: true; the input reads as it did. -/
def placeSidesSpec : ChangeSpec := { name := "placeSides", fn := fun _ => fun
  | [d1, d2, d3] => { results := [.lit (.bool true)], args := [d1, d2, d3] }
  | _ => none }
def placeSidesRow : OpenClaim := { program := "ytkdidhhilcamkaa", sum := "8b6321b4a6999bf037a3170110417da672a77580e1a38999c34fcb0b7884b394", func := "forme/formelaw17.PlaceSides", spec := "placeSides", unfollowed := true, recurses := true, apart := false }
def PlaceSidesSaid : Prop := placeSidesRow.holds Try.pinned (OpenSpec.ofChange placeSidesSpec)

/-- ITS FALSE NEIGHBOUR: 'it returns false'. Refute it at one input. -/
def placeSidesWrong : ChangeSpec := { name := "placeSides", fn := fun _ => fun
  | [d1, d2, d3] => { results := [.lit (.bool false)], args := [d1, d2, d3] }
  | _ => none }
def PlaceSidesWrongFalsely : Prop := placeSidesRow.holds Try.pinned (OpenSpec.ofChange placeSidesWrong)

/-- 'formelaw17.PlaceClears': WHATEVER THE INPUT: true; the input reads as it did. -/
def placeClearsSpec : ChangeSpec := { name := "placeClears", fn := fun _ => fun
  | [d1, d2, d3, d4, d5] => { results := [.lit (.bool true)], args := [d1, d2, d3, d4, d5] }
  | _ => none }
def placeClearsRow : OpenClaim := { program := "ytkdidhhilcamkaa", sum := "8b6321b4a6999bf037a3170110417da672a77580e1a38999c34fcb0b7884b394", func := "forme/formelaw17.PlaceClears", spec := "placeClears", unfollowed := true, recurses := true, apart := false }
def PlaceClearsSaid : Prop := placeClearsRow.holds Try.pinned (OpenSpec.ofChange placeClearsSpec)

/-- ITS FALSE NEIGHBOUR: 'it returns false'. Refute it at one input. -/
def placeClearsWrong : ChangeSpec := { name := "placeClears", fn := fun _ => fun
  | [d1, d2, d3, d4, d5] => { results := [.lit (.bool false)], args := [d1, d2, d3, d4, d5] }
  | _ => none }
def PlaceClearsWrongFalsely : Prop := placeClearsRow.holds Try.pinned (OpenSpec.ofChange placeClearsWrong)

/-- 'formelaw18.Flows': WHATEVER THE INPUT: true; the input reads as it did. -/
def flowsSpec : ChangeSpec := { name := "flows", fn := fun _ => fun
  | [d1, d2, d3, d4, d5] => { results := [.lit (.bool true)], args := [d1, d2, d3, d4, d5] }
  | _ => none }
def flowsRow : OpenClaim := { program := "ytkdidhhilcamkaa", sum := "8b6321b4a6999bf037a3170110417da672a77580e1a38999c34fcb0b7884b394", func := "forme/formelaw18.Flows", spec := "flows", unfollowed := true, recurses := true, apart := false }
def FlowsSaid : Prop := flowsRow.holds Try.pinned (OpenSpec.ofChange flowsSpec)

/-- ITS FALSE NEIGHBOUR: 'it returns false'. Refute it at one input. -/
def flowsWrong : ChangeSpec := { name := "flows", fn := fun _ => fun
  | [d1, d2, d3, d4, d5] => { results := [.lit (.bool false)], args := [d1, d2, d3, d4, d5] }
  | _ => none }
def FlowsWrongFalsely : Prop := flowsRow.holds Try.pinned (OpenSpec.ofChange flowsWrong)

/-- 'formelaw18.FlowClear': WHATEVER THE INPUT: true; the input reads as it did. -/
def flowClearSpec : ChangeSpec := { name := "flowClear", fn := fun _ => fun
  | [d1, d2, d3, d4, d5] => { results := [.lit (.bool true)], args := [d1, d2, d3, d4, d5] }
  | _ => none }
def flowClearRow : OpenClaim := { program := "ytkdidhhilcamkaa", sum := "8b6321b4a6999bf037a3170110417da672a77580e1a38999c34fcb0b7884b394", func := "forme/formelaw18.FlowClear", spec := "flowClear", unfollowed := true, recurses := true, apart := false }
def FlowClearSaid : Prop := flowClearRow.holds Try.pinned (OpenSpec.ofChange flowClearSpec)

/-- ITS FALSE NEIGHBOUR: 'it returns false'. Refute it at one input. -/
def flowClearWrong : ChangeSpec := { name := "flowClear", fn := fun _ => fun
  | [d1, d2, d3, d4, d5] => { results := [.lit (.bool false)], args := [d1, d2, d3, d4, d5] }
  | _ => none }
def FlowClearWrongFalsely : Prop := flowClearRow.holds Try.pinned (OpenSpec.ofChange flowClearWrong)

/-- 'formelaw18.FlowForms': WHATEVER THE INPUT: true; the input reads as it did. -/
def flowFormsSpec : ChangeSpec := { name := "flowForms", fn := fun _ => fun
  | [d1, d2] => { results := [.lit (.bool true)], args := [d1, d2] }
  | _ => none }
def flowFormsRow : OpenClaim := { program := "ytkdidhhilcamkaa", sum := "8b6321b4a6999bf037a3170110417da672a77580e1a38999c34fcb0b7884b394", func := "forme/formelaw18.FlowForms", spec := "flowForms", unfollowed := true, recurses := true, apart := false }
def FlowFormsSaid : Prop := flowFormsRow.holds Try.pinned (OpenSpec.ofChange flowFormsSpec)

/-- ITS FALSE NEIGHBOUR: 'it returns false'. Refute it at one input. -/
def flowFormsWrong : ChangeSpec := { name := "flowForms", fn := fun _ => fun
  | [d1, d2] => { results := [.lit (.bool false)], args := [d1, d2] }
  | _ => none }
def FlowFormsWrongFalsely : Prop := flowFormsRow.holds Try.pinned (OpenSpec.ofChange flowFormsWrong)

/-- 'formelaw18.FlowPlain': WHATEVER THE INPUT: true; the input reads as it did. -/
def flowPlainSpec : ChangeSpec := { name := "flowPlain", fn := fun _ => fun
  | [d1, d2, d3, d4] => { results := [.lit (.bool true)], args := [d1, d2, d3, d4] }
  | _ => none }
def flowPlainRow : OpenClaim := { program := "ytkdidhhilcamkaa", sum := "8b6321b4a6999bf037a3170110417da672a77580e1a38999c34fcb0b7884b394", func := "forme/formelaw18.FlowPlain", spec := "flowPlain", unfollowed := true, recurses := true, apart := false }
def FlowPlainSaid : Prop := flowPlainRow.holds Try.pinned (OpenSpec.ofChange flowPlainSpec)

/-- ITS FALSE NEIGHBOUR: 'it returns false'. Refute it at one input. -/
def flowPlainWrong : ChangeSpec := { name := "flowPlain", fn := fun _ => fun
  | [d1, d2, d3, d4] => { results := [.lit (.bool false)], args := [d1, d2, d3, d4] }
  | _ => none }
def FlowPlainWrongFalsely : Prop := flowPlainRow.holds Try.pinned (OpenSpec.ofChange flowPlainWrong)

/-- 'formelaw18.FlowMoves': WHATEVER THE INPUT: true; the input reads as it did. -/
def flowMovesSpec : ChangeSpec := { name := "flowMoves", fn := fun _ => fun
  | [d1, d2, d3, d4] => { results := [.lit (.bool true)], args := [d1, d2, d3, d4] }
  | _ => none }
def flowMovesRow : OpenClaim := { program := "ytkdidhhilcamkaa", sum := "8b6321b4a6999bf037a3170110417da672a77580e1a38999c34fcb0b7884b394", func := "forme/formelaw18.FlowMoves", spec := "flowMoves", unfollowed := true, recurses := true, apart := false }
def FlowMovesSaid : Prop := flowMovesRow.holds Try.pinned (OpenSpec.ofChange flowMovesSpec)

/-- ITS FALSE NEIGHBOUR: 'it returns false'. Refute it at one input. -/
def flowMovesWrong : ChangeSpec := { name := "flowMoves", fn := fun _ => fun
  | [d1, d2, d3, d4] => { results := [.lit (.bool false)], args := [d1, d2, d3, d4] }
  | _ => none }
def FlowMovesWrongFalsely : Prop := flowMovesRow.holds Try.pinned (OpenSpec.ofChange flowMovesWrong)

/- THE SECOND FORM. 'bulk': how many values and letters a reading holds, each counted each time it is reached (what is shared counts as often as it is met; a slice's spare places count too). A statement '..UptoSaid' is the law's where the arguments, and the package variables that the reading takes, are together of bulk at most 1048576: NARROWER than '..Said'. Prove '..Said' where nothing that the law and all that it calls make is longer than what came in: it says more and counts as full. Else prove '..UptoSaid'. A law counts once. -/
mutual
def uptoBulk {H : Type} : DataW H → Nat
  | .lit (.string bytes) => bytes.length + 1
  | .lit _ => 1
  | .nil => 1
  | .ptr d => uptoBulk d + 1
  | .slice elems spare => uptoBulkAll elems + uptoBulkAll spare + 1
  | .agg parts => uptoBulkAll parts + 1
  | .iface _ d => uptoBulk d + 1
  | .map entries => uptoBulkEntries entries + 1
  | .held _ => 1
def uptoBulkAll {H : Type} : List (DataW H) → Nat
  | [] => 0
  | d :: r => uptoBulk d + uptoBulkAll r
def uptoBulkEntries {H : Type} : List (Lit × DataW H) → Nat
  | [] => 0
  | x :: r => uptoBulkEntry x + uptoBulkEntries r
def uptoBulkEntry {H : Type} : Lit × DataW H → Nat
  | (.string bytes, d) => bytes.length + uptoBulk d + 1
  | (_, d) => uptoBulk d + 1
 end
def uptoSmall : (H : Type) → List (DataW H) → Bool := fun _ ds => decide (uptoBulkAll ds ≤ 1048576)
def OpenSpec.upto (s : _root_.Go.ChangeSpec) : _root_.Go.OpenSpec := { _root_.Go.OpenSpec.ofChange s with cond := some uptoSmall }

/-- 'formelaw17.Places', WHERE WHAT IT READS IS OF BULK AT MOST 1048576: true; the input reads as it did. -/
def placesUptoRow : OpenClaim := { program := "ytkdidhhilcamkaa", sum := "8b6321b4a6999bf037a3170110417da672a77580e1a38999c34fcb0b7884b394", func := "forme/formelaw17.Places", spec := "places", unfollowed := true, recurses := true, apart := false, narrowed := true }
def PlacesUptoSaid : Prop := placesUptoRow.holds Try.pinned (OpenSpec.upto placesSpec)

/-- 'formelaw17.PlaceRules', WHERE WHAT IT READS IS OF BULK AT MOST 1048576: true; the input reads as it did. -/
def placeRulesUptoRow : OpenClaim := { program := "ytkdidhhilcamkaa", sum := "8b6321b4a6999bf037a3170110417da672a77580e1a38999c34fcb0b7884b394", func := "forme/formelaw17.PlaceRules", spec := "placeRules", unfollowed := true, recurses := true, apart := false, narrowed := true }
def PlaceRulesUptoSaid : Prop := placeRulesUptoRow.holds Try.pinned (OpenSpec.upto placeRulesSpec)

/-- 'formelaw17.PlaceForms', WHERE WHAT IT READS IS OF BULK AT MOST 1048576: true; the input reads as it did. -/
def placeFormsUptoRow : OpenClaim := { program := "ytkdidhhilcamkaa", sum := "8b6321b4a6999bf037a3170110417da672a77580e1a38999c34fcb0b7884b394", func := "forme/formelaw17.PlaceForms", spec := "placeForms", unfollowed := true, recurses := true, apart := false, narrowed := true }
def PlaceFormsUptoSaid : Prop := placeFormsUptoRow.holds Try.pinned (OpenSpec.upto placeFormsSpec)

/-- 'formelaw17.PlaceSides', WHERE WHAT IT READS IS OF BULK AT MOST 1048576: true; the input reads as it did. -/
def placeSidesUptoRow : OpenClaim := { program := "ytkdidhhilcamkaa", sum := "8b6321b4a6999bf037a3170110417da672a77580e1a38999c34fcb0b7884b394", func := "forme/formelaw17.PlaceSides", spec := "placeSides", unfollowed := true, recurses := true, apart := false, narrowed := true }
def PlaceSidesUptoSaid : Prop := placeSidesUptoRow.holds Try.pinned (OpenSpec.upto placeSidesSpec)

/-- 'formelaw17.PlaceClears', WHERE WHAT IT READS IS OF BULK AT MOST 1048576: true; the input reads as it did. -/
def placeClearsUptoRow : OpenClaim := { program := "ytkdidhhilcamkaa", sum := "8b6321b4a6999bf037a3170110417da672a77580e1a38999c34fcb0b7884b394", func := "forme/formelaw17.PlaceClears", spec := "placeClears", unfollowed := true, recurses := true, apart := false, narrowed := true }
def PlaceClearsUptoSaid : Prop := placeClearsUptoRow.holds Try.pinned (OpenSpec.upto placeClearsSpec)

/-- 'formelaw18.Flows', WHERE WHAT IT READS IS OF BULK AT MOST 1048576: true; the input reads as it did. -/
def flowsUptoRow : OpenClaim := { program := "ytkdidhhilcamkaa", sum := "8b6321b4a6999bf037a3170110417da672a77580e1a38999c34fcb0b7884b394", func := "forme/formelaw18.Flows", spec := "flows", unfollowed := true, recurses := true, apart := false, narrowed := true }
def FlowsUptoSaid : Prop := flowsUptoRow.holds Try.pinned (OpenSpec.upto flowsSpec)

/-- 'formelaw18.FlowClear', WHERE WHAT IT READS IS OF BULK AT MOST 1048576: true; the input reads as it did. -/
def flowClearUptoRow : OpenClaim := { program := "ytkdidhhilcamkaa", sum := "8b6321b4a6999bf037a3170110417da672a77580e1a38999c34fcb0b7884b394", func := "forme/formelaw18.FlowClear", spec := "flowClear", unfollowed := true, recurses := true, apart := false, narrowed := true }
def FlowClearUptoSaid : Prop := flowClearUptoRow.holds Try.pinned (OpenSpec.upto flowClearSpec)

/-- 'formelaw18.FlowForms', WHERE WHAT IT READS IS OF BULK AT MOST 1048576: true; the input reads as it did. -/
def flowFormsUptoRow : OpenClaim := { program := "ytkdidhhilcamkaa", sum := "8b6321b4a6999bf037a3170110417da672a77580e1a38999c34fcb0b7884b394", func := "forme/formelaw18.FlowForms", spec := "flowForms", unfollowed := true, recurses := true, apart := false, narrowed := true }
def FlowFormsUptoSaid : Prop := flowFormsUptoRow.holds Try.pinned (OpenSpec.upto flowFormsSpec)

/-- 'formelaw18.FlowPlain', WHERE WHAT IT READS IS OF BULK AT MOST 1048576: true; the input reads as it did. -/
def flowPlainUptoRow : OpenClaim := { program := "ytkdidhhilcamkaa", sum := "8b6321b4a6999bf037a3170110417da672a77580e1a38999c34fcb0b7884b394", func := "forme/formelaw18.FlowPlain", spec := "flowPlain", unfollowed := true, recurses := true, apart := false, narrowed := true }
def FlowPlainUptoSaid : Prop := flowPlainUptoRow.holds Try.pinned (OpenSpec.upto flowPlainSpec)

/-- 'formelaw18.FlowMoves', WHERE WHAT IT READS IS OF BULK AT MOST 1048576: true; the input reads as it did. -/
def flowMovesUptoRow : OpenClaim := { program := "ytkdidhhilcamkaa", sum := "8b6321b4a6999bf037a3170110417da672a77580e1a38999c34fcb0b7884b394", func := "forme/formelaw18.FlowMoves", spec := "flowMoves", unfollowed := true, recurses := true, apart := false, narrowed := true }
def FlowMovesUptoSaid : Prop := flowMovesUptoRow.holds Try.pinned (OpenSpec.upto flowMovesSpec)

end Rows
end Go.Proofs.Ytkdidhhilcamkaa
