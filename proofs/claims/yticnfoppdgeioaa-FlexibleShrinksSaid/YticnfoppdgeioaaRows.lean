/-
  No cell of these rows narrows 'for every input' (looked for: loops, veiled, ifaces, maps, wideKeys, modest, calm, conditions, laid).
  DERIVED. THE GIVEN ROWS OF THIS SEAT. 7 by the template 'for every input the law returns true; each argument reads behind the call as it read before'; 0 by the template 'total and deterministic' (their statements: YticnfoppdgeioaaTotals.lean).
  GIVEN WITH THE SEED: the statements are not yours to turn. If you find one false, say at which input.
  Laid BY PROGRAM, IN A SANDBOX (cutbox-rows.mjs): the forced cells as the released guide's own fill.sh prints them over the translation 41b8b30d3a2db6fa… (all of the seat's roots in one cut). By AI agents, Wed Nov 11 2026. No macro, syntax, notation, axiom, sorry.
-/
import Derived.Test.YticnfoppdgeioaaChecked
import GoSem.Claim
import GoSem.ClaimJoined
import GoSem.ClaimMapViews
import Derived.JoinedTies
import Derived.KernelRfl
namespace Go.Proofs.Yticnfoppdgeioaa
/- THE CELL 'sum', in the pinned program and in every row, IS THE sha256 OF THE DUMP (.gsa) THAT YticnfoppdgeioaaProg.lean LOADS. Nothing in Lean hashes anything: it is a label: what it is worth is what the hold of that sum in a sandbox is worth. -/
noncomputable def Try.pinned : Pinned := { name := "yticnfoppdgeioaa", sum := "41b8b30d3a2db6fad330a75b94042e4b1d5e0f78146d0da1d32d4c215b9d5124", checked := Try.checked }
namespace Rows
def none {H : Type} : Left H := { results := [], args := [] }

/-- 'formelaw20.Flexibles': WHATEVER THE INPUT: true; the input reads as it did. -/
def flexiblesSpec : ChangeSpec := { name := "flexibles", fn := fun _ => fun
  | [d1, d2] => { results := [.lit (.bool true)], args := [d1, d2] }
  | _ => none }
def flexiblesRow : OpenClaim := { program := "yticnfoppdgeioaa", sum := "41b8b30d3a2db6fad330a75b94042e4b1d5e0f78146d0da1d32d4c215b9d5124", func := "forme/formelaw20.Flexibles", spec := "flexibles", unfollowed := true, recurses := true, apart := false }
def FlexiblesSaid : Prop := flexiblesRow.holds Try.pinned (OpenSpec.ofChange flexiblesSpec)

/-- ITS FALSE NEIGHBOUR: 'it returns false'. Refute it at one input. -/
def flexiblesWrong : ChangeSpec := { name := "flexibles", fn := fun _ => fun
  | [d1, d2] => { results := [.lit (.bool false)], args := [d1, d2] }
  | _ => none }
def FlexiblesWrongFalsely : Prop := flexiblesRow.holds Try.pinned (OpenSpec.ofChange flexiblesWrong)

/-- 'formelaw20.FlexibleSum': WHATEVER THE INPUT: true; the input reads as it did. -/
def flexibleSumSpec : ChangeSpec := { name := "flexibleSum", fn := fun _ => fun
  | [d1, d2] => { results := [.lit (.bool true)], args := [d1, d2] }
  | _ => none }
def flexibleSumRow : OpenClaim := { program := "yticnfoppdgeioaa", sum := "41b8b30d3a2db6fad330a75b94042e4b1d5e0f78146d0da1d32d4c215b9d5124", func := "forme/formelaw20.FlexibleSum", spec := "flexibleSum", unfollowed := true, recurses := true, apart := false }
def FlexibleSumSaid : Prop := flexibleSumRow.holds Try.pinned (OpenSpec.ofChange flexibleSumSpec)

/-- ITS FALSE NEIGHBOUR: 'it returns false'. Refute it at one input. -/
def flexibleSumWrong : ChangeSpec := { name := "flexibleSum", fn := fun _ => fun
  | [d1, d2] => { results := [.lit (.bool false)], args := [d1, d2] }
  | _ => none }
def FlexibleSumWrongFalsely : Prop := flexibleSumRow.holds Try.pinned (OpenSpec.ofChange flexibleSumWrong)

/-- 'formelaw20.FlexibleForms': WHATEVER THE INPUT: true; the input reads as it did. -/
def flexibleFormsSpec : ChangeSpec := { name := "flexibleForms", fn := fun _ => fun
  | [d1, d2] => { results := [.lit (.bool true)], args := [d1, d2] }
  | _ => none }
def flexibleFormsRow : OpenClaim := { program := "yticnfoppdgeioaa", sum := "41b8b30d3a2db6fad330a75b94042e4b1d5e0f78146d0da1d32d4c215b9d5124", func := "forme/formelaw20.FlexibleForms", spec := "flexibleForms", unfollowed := true, recurses := true, apart := false }
def FlexibleFormsSaid : Prop := flexibleFormsRow.holds Try.pinned (OpenSpec.ofChange flexibleFormsSpec)

/-- ITS FALSE NEIGHBOUR: 'it returns false'. Refute it at one input. -/
def flexibleFormsWrong : ChangeSpec := { name := "flexibleForms", fn := fun _ => fun
  | [d1, d2] => { results := [.lit (.bool false)], args := [d1, d2] }
  | _ => none }
def FlexibleFormsWrongFalsely : Prop := flexibleFormsRow.holds Try.pinned (OpenSpec.ofChange flexibleFormsWrong)

/-- 'formelaw20.FlexibleShares': WHATEVER THE INPUT: true; the input reads as it did. -/
def flexibleSharesSpec : ChangeSpec := { name := "flexibleShares", fn := fun _ => fun
  | [d1, d2, d3] => { results := [.lit (.bool true)], args := [d1, d2, d3] }
  | _ => none }
def flexibleSharesRow : OpenClaim := { program := "yticnfoppdgeioaa", sum := "41b8b30d3a2db6fad330a75b94042e4b1d5e0f78146d0da1d32d4c215b9d5124", func := "forme/formelaw20.FlexibleShares", spec := "flexibleShares", unfollowed := true, recurses := true, apart := false }
def FlexibleSharesSaid : Prop := flexibleSharesRow.holds Try.pinned (OpenSpec.ofChange flexibleSharesSpec)

/-- ITS FALSE NEIGHBOUR: 'it returns false'. Refute it at one input. -/
def flexibleSharesWrong : ChangeSpec := { name := "flexibleShares", fn := fun _ => fun
  | [d1, d2, d3] => { results := [.lit (.bool false)], args := [d1, d2, d3] }
  | _ => none }
def FlexibleSharesWrongFalsely : Prop := flexibleSharesRow.holds Try.pinned (OpenSpec.ofChange flexibleSharesWrong)

/-- 'formelaw20.FlexibleShrinks': WHATEVER THE INPUT: true; the input reads as it did. -/
def flexibleShrinksSpec : ChangeSpec := { name := "flexibleShrinks", fn := fun _ => fun
  | [d1, d2] => { results := [.lit (.bool true)], args := [d1, d2] }
  | _ => none }
def flexibleShrinksRow : OpenClaim := { program := "yticnfoppdgeioaa", sum := "41b8b30d3a2db6fad330a75b94042e4b1d5e0f78146d0da1d32d4c215b9d5124", func := "forme/formelaw20.FlexibleShrinks", spec := "flexibleShrinks", unfollowed := true, recurses := true, apart := false }
def FlexibleShrinksSaid : Prop := flexibleShrinksRow.holds Try.pinned (OpenSpec.ofChange flexibleShrinksSpec)

/-- ITS FALSE NEIGHBOUR: 'it returns false'. Refute it at one input. -/
def flexibleShrinksWrong : ChangeSpec := { name := "flexibleShrinks", fn := fun _ => fun
  | [d1, d2] => { results := [.lit (.bool false)], args := [d1, d2] }
  | _ => none }
def FlexibleShrinksWrongFalsely : Prop := flexibleShrinksRow.holds Try.pinned (OpenSpec.ofChange flexibleShrinksWrong)

/-- 'formelaw20.FlexibleFixed': WHATEVER THE INPUT: true; the input reads as it did. -/
def flexibleFixedSpec : ChangeSpec := { name := "flexibleFixed", fn := fun _ => fun
  | [d1, d2] => { results := [.lit (.bool true)], args := [d1, d2] }
  | _ => none }
def flexibleFixedRow : OpenClaim := { program := "yticnfoppdgeioaa", sum := "41b8b30d3a2db6fad330a75b94042e4b1d5e0f78146d0da1d32d4c215b9d5124", func := "forme/formelaw20.FlexibleFixed", spec := "flexibleFixed", unfollowed := true, recurses := true, apart := false }
def FlexibleFixedSaid : Prop := flexibleFixedRow.holds Try.pinned (OpenSpec.ofChange flexibleFixedSpec)

/-- ITS FALSE NEIGHBOUR: 'it returns false'. Refute it at one input. -/
def flexibleFixedWrong : ChangeSpec := { name := "flexibleFixed", fn := fun _ => fun
  | [d1, d2] => { results := [.lit (.bool false)], args := [d1, d2] }
  | _ => none }
def FlexibleFixedWrongFalsely : Prop := flexibleFixedRow.holds Try.pinned (OpenSpec.ofChange flexibleFixedWrong)

/-- 'formelaw20.FlexibleStops': WHATEVER THE INPUT: true; the input reads as it did. -/
def flexibleStopsSpec : ChangeSpec := { name := "flexibleStops", fn := fun _ => fun
  | [d1, d2, d3, d4] => { results := [.lit (.bool true)], args := [d1, d2, d3, d4] }
  | _ => none }
def flexibleStopsRow : OpenClaim := { program := "yticnfoppdgeioaa", sum := "41b8b30d3a2db6fad330a75b94042e4b1d5e0f78146d0da1d32d4c215b9d5124", func := "forme/formelaw20.FlexibleStops", spec := "flexibleStops", unfollowed := true, recurses := true, apart := false }
def FlexibleStopsSaid : Prop := flexibleStopsRow.holds Try.pinned (OpenSpec.ofChange flexibleStopsSpec)

/-- ITS FALSE NEIGHBOUR: 'it returns false'. Refute it at one input. -/
def flexibleStopsWrong : ChangeSpec := { name := "flexibleStops", fn := fun _ => fun
  | [d1, d2, d3, d4] => { results := [.lit (.bool false)], args := [d1, d2, d3, d4] }
  | _ => none }
def FlexibleStopsWrongFalsely : Prop := flexibleStopsRow.holds Try.pinned (OpenSpec.ofChange flexibleStopsWrong)

/- THE SECOND FORM. 'bulk': how many values and letters a reading holds, each counted each time it is reached (what is shared counts as often as it is met; a slice's spare places count too). A statement '..UptoSaid' is the law's where the arguments, and the package variables that the reading takes, are together of bulk at most 1048576: NARROWER than '..Said'. Prove '..Said' where nothing that the law and all that it calls make is longer than what came in: it says more and counts as full. Else prove '..UptoSaid'. A law counts once. -/
mutual
def uptoBulk {H : Type} : DataW H → Nat
  | .lit (.string bytes) => bytes.length + 1
  | .lit _ => 1
  | .nil => 1
  | .ptr d => uptoBulk d + 1
  | .slice elems spare => uptoBulkAll elems + uptoBulkAll spare + 1
  | .agg parts => uptoBulkAll parts + 1
  | .iface _ d => uptoBulk d + 1
  | .map entries => uptoBulkEntries entries + 1
  | .held _ => 1
def uptoBulkAll {H : Type} : List (DataW H) → Nat
  | [] => 0
  | d :: r => uptoBulk d + uptoBulkAll r
def uptoBulkEntries {H : Type} : List (Lit × DataW H) → Nat
  | [] => 0
  | x :: r => uptoBulkEntry x + uptoBulkEntries r
def uptoBulkEntry {H : Type} : Lit × DataW H → Nat
  | (.string bytes, d) => bytes.length + uptoBulk d + 1
  | (_, d) => uptoBulk d + 1
 end
def uptoSmall : (H : Type) → List (DataW H) → Bool := fun _ ds => decide (uptoBulkAll ds ≤ 1048576)
def OpenSpec.upto (s : _root_.Go.ChangeSpec) : _root_.Go.OpenSpec := { _root_.Go.OpenSpec.ofChange s with cond := some uptoSmall }

/-- 'formelaw20.Flexibles', WHERE WHAT IT READS IS OF BULK AT MOST 1048576: true; the input reads as it did. -/
def flexiblesUptoRow : OpenClaim := { program := "yticnfoppdgeioaa", sum := "41b8b30d3a2db6fad330a75b94042e4b1d5e0f78146d0da1d32d4c215b9d5124", func := "forme/formelaw20.Flexibles", spec := "flexibles", unfollowed := true, recurses := true, apart := false, narrowed := true }
def FlexiblesUptoSaid : Prop := flexiblesUptoRow.holds Try.pinned (OpenSpec.upto flexiblesSpec)

/-- 'formelaw20.FlexibleSum', WHERE WHAT IT READS IS OF BULK AT MOST 1048576: true; the input reads as it did. -/
def flexibleSumUptoRow : OpenClaim := { program := "yticnfoppdgeioaa", sum := "41b8b30d3a2db6fad330a75b94042e4b1d5e0f78146d0da1d32d4c215b9d5124", func := "forme/formelaw20.FlexibleSum", spec := "flexibleSum", unfollowed := true, recurses := true, apart := false, narrowed := true }
def FlexibleSumUptoSaid : Prop := flexibleSumUptoRow.holds Try.pinned (OpenSpec.upto flexibleSumSpec)

/-- 'formelaw20.FlexibleForms', WHERE WHAT IT READS IS OF BULK AT MOST 1048576: true; the input reads as it did. -/
def flexibleFormsUptoRow : OpenClaim := { program := "yticnfoppdgeioaa", sum := "41b8b30d3a2db6fad330a75b94042e4b1d5e0f78146d0da1d32d4c215b9d5124", func := "forme/formelaw20.FlexibleForms", spec := "flexibleForms", unfollowed := true, recurses := true, apart := false, narrowed := true }
def FlexibleFormsUptoSaid : Prop := flexibleFormsUptoRow.holds Try.pinned (OpenSpec.upto flexibleFormsSpec)

/-- 'formelaw20.FlexibleShares', WHERE WHAT IT READS IS OF BULK AT MOST 1048576: true; the input reads as it did. -/
def flexibleSharesUptoRow : OpenClaim := { program := "yticnfoppdgeioaa", sum := "41b8b30d3a2db6fad330a75b94042e4b1d5e0f78146d0da1d32d4c215b9d5124", func := "forme/formelaw20.FlexibleShares", spec := "flexibleShares", unfollowed := true, recurses := true, apart := false, narrowed := true }
def FlexibleSharesUptoSaid : Prop := flexibleSharesUptoRow.holds Try.pinned (OpenSpec.upto flexibleSharesSpec)

/-- 'formelaw20.FlexibleShrinks', WHERE WHAT IT READS IS OF BULK AT MOST 1048576: true; the input reads as it did. -/
def flexibleShrinksUptoRow : OpenClaim := { program := "yticnfoppdgeioaa", sum := "41b8b30d3a2db6fad330a75b94042e4b1d5e0f78146d0da1d32d4c215b9d5124", func := "forme/formelaw20.FlexibleShrinks", spec := "flexibleShrinks", unfollowed := true, recurses := true, apart := false, narrowed := true }
def FlexibleShrinksUptoSaid : Prop := flexibleShrinksUptoRow.holds Try.pinned (OpenSpec.upto flexibleShrinksSpec)

/-- 'formelaw20.FlexibleFixed', WHERE WHAT IT READS IS OF BULK AT MOST 1048576: true; the input reads as it did. -/
def flexibleFixedUptoRow : OpenClaim := { program := "yticnfoppdgeioaa", sum := "41b8b30d3a2db6fad330a75b94042e4b1d5e0f78146d0da1d32d4c215b9d5124", func := "forme/formelaw20.FlexibleFixed", spec := "flexibleFixed", unfollowed := true, recurses := true, apart := false, narrowed := true }
def FlexibleFixedUptoSaid : Prop := flexibleFixedUptoRow.holds Try.pinned (OpenSpec.upto flexibleFixedSpec)

/-- 'formelaw20.FlexibleStops', WHERE WHAT IT READS IS OF BULK AT MOST 1048576: true; the input reads as it did. -/
def flexibleStopsUptoRow : OpenClaim := { program := "yticnfoppdgeioaa", sum := "41b8b30d3a2db6fad330a75b94042e4b1d5e0f78146d0da1d32d4c215b9d5124", func := "forme/formelaw20.FlexibleStops", spec := "flexibleStops", unfollowed := true, recurses := true, apart := false, narrowed := true }
def FlexibleStopsUptoSaid : Prop := flexibleStopsUptoRow.holds Try.pinned (OpenSpec.upto flexibleStopsSpec)

end Rows
end Go.Proofs.Yticnfoppdgeioaa
