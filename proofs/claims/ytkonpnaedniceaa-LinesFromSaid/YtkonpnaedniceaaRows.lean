/-
  No cell of these rows narrows 'for every input' (looked for: loops, veiled, ifaces, maps, wideKeys, modest, calm, conditions, laid).
  DERIVED. THE GIVEN ROWS OF THIS SEAT. 3 by the template 'for every input the law returns true; each argument reads behind the call as it read before'; 0 by the template 'total and deterministic' (their statements: YtkonpnaedniceaaTotals.lean).
  GIVEN WITH THE SEED: the statements are not yours to turn. If you find one false, say at which input.
  Laid BY PROGRAM, IN A SANDBOX (cutbox-rows.mjs): the forced cells as the released guide's own fill.sh prints them over the translation d8b2241a2484cc7d… (all of the seat's roots in one cut). By AI agents, Wed Nov 11 2026. No macro, syntax, notation, axiom, sorry.
-/
import Derived.Test.YtkonpnaedniceaaChecked
import GoSem.Claim
import GoSem.ClaimJoined
import GoSem.ClaimMapViews
import Derived.JoinedTies
import Derived.KernelRfl
namespace Go.Proofs.Ytkonpnaedniceaa
/- THE CELL 'sum', in the pinned program and in every row, IS THE sha256 OF THE DUMP (.gsa) THAT YtkonpnaedniceaaProg.lean LOADS. Nothing in Lean hashes anything: it is a label: what it is worth is what the hold of that sum in a sandbox is worth. -/
noncomputable def Try.pinned : Pinned := { name := "ytkonpnaedniceaa", sum := "d8b2241a2484cc7de3aaec24be2b1c47172377c44d84e0c7ac00b1eb412dd28a", checked := Try.checked }
namespace Rows
def none {H : Type} : Left H := { results := [], args := [] }

/-- 'formelaw6.LinesFrom': WHATEVER THE INPUT: true; the input reads as it did. -/
def linesFromSpec : ChangeSpec := { name := "linesFrom", fn := fun _ => fun
  | [d1, d2, d3] => { results := [.lit (.bool true)], args := [d1, d2, d3] }
  | _ => none }
def linesFromRow : OpenClaim := { program := "ytkonpnaedniceaa", sum := "d8b2241a2484cc7de3aaec24be2b1c47172377c44d84e0c7ac00b1eb412dd28a", func := "forme/formelaw6.LinesFrom", spec := "linesFrom", apart := false }
def LinesFromSaid : Prop := linesFromRow.holds Try.pinned (OpenSpec.ofChange linesFromSpec)

/-- ITS FALSE NEIGHBOUR: 'it returns false'. Refute it at one input. -/
def linesFromWrong : ChangeSpec := { name := "linesFrom", fn := fun _ => fun
  | [d1, d2, d3] => { results := [.lit (.bool false)], args := [d1, d2, d3] }
  | _ => none }
def LinesFromWrongFalsely : Prop := linesFromRow.holds Try.pinned (OpenSpec.ofChange linesFromWrong)

/-- 'formelaw17.PlaceRules': WHATEVER THE INPUT: true; the input reads as it did. -/
def placeRulesSpec : ChangeSpec := { name := "placeRules", fn := fun _ => fun
  | [d1, d2] => { results := [.lit (.bool true)], args := [d1, d2] }
  | _ => none }
def placeRulesRow : OpenClaim := { program := "ytkonpnaedniceaa", sum := "d8b2241a2484cc7de3aaec24be2b1c47172377c44d84e0c7ac00b1eb412dd28a", func := "forme/formelaw17.PlaceRules", spec := "placeRules", unfollowed := true, recurses := true, apart := false }
def PlaceRulesSaid : Prop := placeRulesRow.holds Try.pinned (OpenSpec.ofChange placeRulesSpec)

/-- ITS FALSE NEIGHBOUR: 'it returns false'. Refute it at one input. -/
def placeRulesWrong : ChangeSpec := { name := "placeRules", fn := fun _ => fun
  | [d1, d2] => { results := [.lit (.bool false)], args := [d1, d2] }
  | _ => none }
def PlaceRulesWrongFalsely : Prop := placeRulesRow.holds Try.pinned (OpenSpec.ofChange placeRulesWrong)

/-- 'formelaw18.FlowClear': WHATEVER THE INPUT: true; the input reads as it did. -/
def flowClearSpec : ChangeSpec := { name := "flowClear", fn := fun _ => fun
  | [d1, d2, d3, d4, d5] => { results := [.lit (.bool true)], args := [d1, d2, d3, d4, d5] }
  | _ => none }
def flowClearRow : OpenClaim := { program := "ytkonpnaedniceaa", sum := "d8b2241a2484cc7de3aaec24be2b1c47172377c44d84e0c7ac00b1eb412dd28a", func := "forme/formelaw18.FlowClear", spec := "flowClear", unfollowed := true, recurses := true, apart := false }
def FlowClearSaid : Prop := flowClearRow.holds Try.pinned (OpenSpec.ofChange flowClearSpec)

/-- ITS FALSE NEIGHBOUR: 'it returns false'. Refute it at one input. -/
def flowClearWrong : ChangeSpec := { name := "flowClear", fn := fun _ => fun
  | [d1, d2, d3, d4, d5] => { results := [.lit (.bool false)], args := [d1, d2, d3, d4, d5] }
  | _ => none }
def FlowClearWrongFalsely : Prop := flowClearRow.holds Try.pinned (OpenSpec.ofChange flowClearWrong)

/- THE SECOND FORM. 'bulk': how many values and letters a reading holds, each counted each time it is reached (what is shared counts as often as it is met; a slice's spare places count too). A statement '..UptoSaid' is the law's where the arguments, and the package variables that the reading takes, are together of bulk at most 1048576: NARROWER than '..Said'. Prove '..Said' where nothing that the law and all that it calls make is longer than what came in: it says more and counts as full. Else prove '..UptoSaid'. A law counts once. -/
mutual
def uptoBulk {H : Type} : DataW H → Nat
  | .lit (.string bytes) => bytes.length + 1
  | .lit _ => 1
  | .nil => 1
  | .ptr d => uptoBulk d + 1
  | .slice elems spare => uptoBulkAll elems + uptoBulkAll spare + 1
  | .agg parts => uptoBulkAll parts + 1
  | .iface _ d => uptoBulk d + 1
  | .map entries => uptoBulkEntries entries + 1
  | .held _ => 1
def uptoBulkAll {H : Type} : List (DataW H) → Nat
  | [] => 0
  | d :: r => uptoBulk d + uptoBulkAll r
def uptoBulkEntries {H : Type} : List (Lit × DataW H) → Nat
  | [] => 0
  | x :: r => uptoBulkEntry x + uptoBulkEntries r
def uptoBulkEntry {H : Type} : Lit × DataW H → Nat
  | (.string bytes, d) => bytes.length + uptoBulk d + 1
  | (_, d) => uptoBulk d + 1
 end
def uptoSmall : (H : Type) → List (DataW H) → Bool := fun _ ds => decide (uptoBulkAll ds ≤ 1048576)
def OpenSpec.upto (s : _root_.Go.ChangeSpec) : _root_.Go.OpenSpec := { _root_.Go.OpenSpec.ofChange s with cond := some uptoSmall }

/-- 'formelaw6.LinesFrom', WHERE WHAT IT READS IS OF BULK AT MOST 1048576: true; the input reads as it did. -/
def linesFromUptoRow : OpenClaim := { program := "ytkonpnaedniceaa", sum := "d8b2241a2484cc7de3aaec24be2b1c47172377c44d84e0c7ac00b1eb412dd28a", func := "forme/formelaw6.LinesFrom", spec := "linesFrom", apart := false, narrowed := true }
def LinesFromUptoSaid : Prop := linesFromUptoRow.holds Try.pinned (OpenSpec.upto linesFromSpec)

/-- 'formelaw17.PlaceRules', WHERE WHAT IT READS IS OF BULK AT MOST 1048576: true; the input reads as it did. -/
def placeRulesUptoRow : OpenClaim := { program := "ytkonpnaedniceaa", sum := "d8b2241a2484cc7de3aaec24be2b1c47172377c44d84e0c7ac00b1eb412dd28a", func := "forme/formelaw17.PlaceRules", spec := "placeRules", unfollowed := true, recurses := true, apart := false, narrowed := true }
def PlaceRulesUptoSaid : Prop := placeRulesUptoRow.holds Try.pinned (OpenSpec.upto placeRulesSpec)

/-- 'formelaw18.FlowClear', WHERE WHAT IT READS IS OF BULK AT MOST 1048576: true; the input reads as it did. -/
def flowClearUptoRow : OpenClaim := { program := "ytkonpnaedniceaa", sum := "d8b2241a2484cc7de3aaec24be2b1c47172377c44d84e0c7ac00b1eb412dd28a", func := "forme/formelaw18.FlowClear", spec := "flowClear", unfollowed := true, recurses := true, apart := false, narrowed := true }
def FlowClearUptoSaid : Prop := flowClearUptoRow.holds Try.pinned (OpenSpec.upto flowClearSpec)

end Rows
end Go.Proofs.Ytkonpnaedniceaa
