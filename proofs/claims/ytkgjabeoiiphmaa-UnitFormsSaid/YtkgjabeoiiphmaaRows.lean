/-
  No cell of these rows narrows 'for every input' (looked for: loops, veiled, ifaces, maps, wideKeys, modest, calm, conditions, laid).
  DERIVED. THE GIVEN ROWS OF THIS SEAT. 5 by the template 'for every input the law returns true; each argument reads behind the call as it read before'; 0 by the template 'total and deterministic' (their statements: YtkgjabeoiiphmaaTotals.lean).
  GIVEN WITH THE SEED: the statements are not yours to turn. If you find one false, say at which input.
  Laid BY PROGRAM, IN A SANDBOX (cutbox-rows.mjs): the forced cells as the released guide's own fill.sh prints them over the translation cda733c476e0fa05… (all of the seat's roots in one cut). By AI agents, Wed Nov 11 2026. No macro, syntax, notation, axiom, sorry.
-/
import Derived.Test.YtkgjabeoiiphmaaChecked
import GoSem.Claim
import GoSem.ClaimJoined
import GoSem.ClaimMapViews
import Derived.JoinedTies
import Derived.KernelRfl
namespace Go.Proofs.Ytkgjabeoiiphmaa
/- THE CELL 'sum', in the pinned program and in every row, IS THE sha256 OF THE DUMP (.gsa) THAT YtkgjabeoiiphmaaProg.lean LOADS. Nothing in Lean hashes anything: it is a label: what it is worth is what the hold of that sum in a sandbox is worth. -/
noncomputable def Try.pinned : Pinned := { name := "ytkgjabeoiiphmaa", sum := "cda733c476e0fa054ef180bb56c7ebf776c56a6b96a493d28ed923a00a4b64f8", checked := Try.checked }
namespace Rows
def none {H : Type} : Left H := { results := [], args := [] }

/-- 'formelaw1.Units': WHATEVER THE INPUT: true; the input reads as it did. -/
def unitsSpec : ChangeSpec := { name := "units", fn := fun _ => fun
  | [d1, d2, d3] => { results := [.lit (.bool true)], args := [d1, d2, d3] }
  | _ => none }
def unitsRow : OpenClaim := { program := "ytkgjabeoiiphmaa", sum := "cda733c476e0fa054ef180bb56c7ebf776c56a6b96a493d28ed923a00a4b64f8", func := "forme/formelaw1.Units", spec := "units", apart := false }
def UnitsSaid : Prop := unitsRow.holds Try.pinned (OpenSpec.ofChange unitsSpec)

/-- ITS FALSE NEIGHBOUR: 'it returns false'. Refute it at one input. -/
def unitsWrong : ChangeSpec := { name := "units", fn := fun _ => fun
  | [d1, d2, d3] => { results := [.lit (.bool false)], args := [d1, d2, d3] }
  | _ => none }
def UnitsWrongFalsely : Prop := unitsRow.holds Try.pinned (OpenSpec.ofChange unitsWrong)

/-- 'formelaw1.UnitFloor': WHATEVER THE INPUT: true; the input reads as it did. -/
def unitFloorSpec : ChangeSpec := { name := "unitFloor", fn := fun _ => fun
  | [d1, d2, d3] => { results := [.lit (.bool true)], args := [d1, d2, d3] }
  | _ => none }
def unitFloorRow : OpenClaim := { program := "ytkgjabeoiiphmaa", sum := "cda733c476e0fa054ef180bb56c7ebf776c56a6b96a493d28ed923a00a4b64f8", func := "forme/formelaw1.UnitFloor", spec := "unitFloor", apart := false }
def UnitFloorSaid : Prop := unitFloorRow.holds Try.pinned (OpenSpec.ofChange unitFloorSpec)

/-- ITS FALSE NEIGHBOUR: 'it returns false'. Refute it at one input. -/
def unitFloorWrong : ChangeSpec := { name := "unitFloor", fn := fun _ => fun
  | [d1, d2, d3] => { results := [.lit (.bool false)], args := [d1, d2, d3] }
  | _ => none }
def UnitFloorWrongFalsely : Prop := unitFloorRow.holds Try.pinned (OpenSpec.ofChange unitFloorWrong)

/-- 'formelaw1.UnitForms': WHATEVER THE INPUT: true; the input reads as it did. -/
def unitFormsSpec : ChangeSpec := { name := "unitForms", fn := fun _ => fun
  | [d1, d2] => { results := [.lit (.bool true)], args := [d1, d2] }
  | _ => none }
def unitFormsRow : OpenClaim := { program := "ytkgjabeoiiphmaa", sum := "cda733c476e0fa054ef180bb56c7ebf776c56a6b96a493d28ed923a00a4b64f8", func := "forme/formelaw1.UnitForms", spec := "unitForms", apart := false }
def UnitFormsSaid : Prop := unitFormsRow.holds Try.pinned (OpenSpec.ofChange unitFormsSpec)

/-- ITS FALSE NEIGHBOUR: 'it returns false'. Refute it at one input. -/
def unitFormsWrong : ChangeSpec := { name := "unitForms", fn := fun _ => fun
  | [d1, d2] => { results := [.lit (.bool false)], args := [d1, d2] }
  | _ => none }
def UnitFormsWrongFalsely : Prop := unitFormsRow.holds Try.pinned (OpenSpec.ofChange unitFormsWrong)

/-- 'formelaw1.UnitAdds': WHATEVER THE INPUT: true; the input reads as it did. -/
def unitAddsSpec : ChangeSpec := { name := "unitAdds", fn := fun _ => fun
  | [d1, d2, d3] => { results := [.lit (.bool true)], args := [d1, d2, d3] }
  | _ => none }
def unitAddsRow : OpenClaim := { program := "ytkgjabeoiiphmaa", sum := "cda733c476e0fa054ef180bb56c7ebf776c56a6b96a493d28ed923a00a4b64f8", func := "forme/formelaw1.UnitAdds", spec := "unitAdds", apart := false }
def UnitAddsSaid : Prop := unitAddsRow.holds Try.pinned (OpenSpec.ofChange unitAddsSpec)

/-- ITS FALSE NEIGHBOUR: 'it returns false'. Refute it at one input. -/
def unitAddsWrong : ChangeSpec := { name := "unitAdds", fn := fun _ => fun
  | [d1, d2, d3] => { results := [.lit (.bool false)], args := [d1, d2, d3] }
  | _ => none }
def UnitAddsWrongFalsely : Prop := unitAddsRow.holds Try.pinned (OpenSpec.ofChange unitAddsWrong)

/-- 'formelaw1.UnitScales': WHATEVER THE INPUT: true; the input reads as it did. -/
def unitScalesSpec : ChangeSpec := { name := "unitScales", fn := fun _ => fun
  | [d1, d2, d3] => { results := [.lit (.bool true)], args := [d1, d2, d3] }
  | _ => none }
def unitScalesRow : OpenClaim := { program := "ytkgjabeoiiphmaa", sum := "cda733c476e0fa054ef180bb56c7ebf776c56a6b96a493d28ed923a00a4b64f8", func := "forme/formelaw1.UnitScales", spec := "unitScales", apart := false }
def UnitScalesSaid : Prop := unitScalesRow.holds Try.pinned (OpenSpec.ofChange unitScalesSpec)

/-- ITS FALSE NEIGHBOUR: 'it returns false'. Refute it at one input. -/
def unitScalesWrong : ChangeSpec := { name := "unitScales", fn := fun _ => fun
  | [d1, d2, d3] => { results := [.lit (.bool false)], args := [d1, d2, d3] }
  | _ => none }
def UnitScalesWrongFalsely : Prop := unitScalesRow.holds Try.pinned (OpenSpec.ofChange unitScalesWrong)

/- THE SECOND FORM. 'bulk': how many values and letters a reading holds, each counted each time it is reached (what is shared counts as often as it is met; a slice's spare places count too). A statement '..UptoSaid' is the law's where the arguments, and the package variables that the reading takes, are together of bulk at most 1048576: NARROWER than '..Said'. Prove '..Said' where nothing that the law and all that it calls make is longer than what came in: it says more and counts as full. Else prove '..UptoSaid'. A law counts once. -/
mutual
def uptoBulk {H : Type} : DataW H → Nat
  | .lit (.string bytes) => bytes.length + 1
  | .lit _ => 1
  | .nil => 1
  | .ptr d => uptoBulk d + 1
  | .slice elems spare => uptoBulkAll elems + uptoBulkAll spare + 1
  | .agg parts => uptoBulkAll parts + 1
  | .iface _ d => uptoBulk d + 1
  | .map entries => uptoBulkEntries entries + 1
  | .held _ => 1
def uptoBulkAll {H : Type} : List (DataW H) → Nat
  | [] => 0
  | d :: r => uptoBulk d + uptoBulkAll r
def uptoBulkEntries {H : Type} : List (Lit × DataW H) → Nat
  | [] => 0
  | x :: r => uptoBulkEntry x + uptoBulkEntries r
def uptoBulkEntry {H : Type} : Lit × DataW H → Nat
  | (.string bytes, d) => bytes.length + uptoBulk d + 1
  | (_, d) => uptoBulk d + 1
 end
def uptoSmall : (H : Type) → List (DataW H) → Bool := fun _ ds => decide (uptoBulkAll ds ≤ 1048576)
def OpenSpec.upto (s : _root_.Go.ChangeSpec) : _root_.Go.OpenSpec := { _root_.Go.OpenSpec.ofChange s with cond := some uptoSmall }

/-- 'formelaw1.Units', WHERE WHAT IT READS IS OF BULK AT MOST 1048576: true; the input reads as it did. -/
def unitsUptoRow : OpenClaim := { program := "ytkgjabeoiiphmaa", sum := "cda733c476e0fa054ef180bb56c7ebf776c56a6b96a493d28ed923a00a4b64f8", func := "forme/formelaw1.Units", spec := "units", apart := false, narrowed := true }
def UnitsUptoSaid : Prop := unitsUptoRow.holds Try.pinned (OpenSpec.upto unitsSpec)

/-- 'formelaw1.UnitFloor', WHERE WHAT IT READS IS OF BULK AT MOST 1048576: true; the input reads as it did. -/
def unitFloorUptoRow : OpenClaim := { program := "ytkgjabeoiiphmaa", sum := "cda733c476e0fa054ef180bb56c7ebf776c56a6b96a493d28ed923a00a4b64f8", func := "forme/formelaw1.UnitFloor", spec := "unitFloor", apart := false, narrowed := true }
def UnitFloorUptoSaid : Prop := unitFloorUptoRow.holds Try.pinned (OpenSpec.upto unitFloorSpec)

/-- 'formelaw1.UnitForms', WHERE WHAT IT READS IS OF BULK AT MOST 1048576: true; the input reads as it did. -/
def unitFormsUptoRow : OpenClaim := { program := "ytkgjabeoiiphmaa", sum := "cda733c476e0fa054ef180bb56c7ebf776c56a6b96a493d28ed923a00a4b64f8", func := "forme/formelaw1.UnitForms", spec := "unitForms", apart := false, narrowed := true }
def UnitFormsUptoSaid : Prop := unitFormsUptoRow.holds Try.pinned (OpenSpec.upto unitFormsSpec)

/-- 'formelaw1.UnitAdds', WHERE WHAT IT READS IS OF BULK AT MOST 1048576: true; the input reads as it did. -/
def unitAddsUptoRow : OpenClaim := { program := "ytkgjabeoiiphmaa", sum := "cda733c476e0fa054ef180bb56c7ebf776c56a6b96a493d28ed923a00a4b64f8", func := "forme/formelaw1.UnitAdds", spec := "unitAdds", apart := false, narrowed := true }
def UnitAddsUptoSaid : Prop := unitAddsUptoRow.holds Try.pinned (OpenSpec.upto unitAddsSpec)

/-- 'formelaw1.UnitScales', WHERE WHAT IT READS IS OF BULK AT MOST 1048576: true; the input reads as it did. -/
def unitScalesUptoRow : OpenClaim := { program := "ytkgjabeoiiphmaa", sum := "cda733c476e0fa054ef180bb56c7ebf776c56a6b96a493d28ed923a00a4b64f8", func := "forme/formelaw1.UnitScales", spec := "unitScales", apart := false, narrowed := true }
def UnitScalesUptoSaid : Prop := unitScalesUptoRow.holds Try.pinned (OpenSpec.upto unitScalesSpec)

end Rows
end Go.Proofs.Ytkgjabeoiiphmaa
