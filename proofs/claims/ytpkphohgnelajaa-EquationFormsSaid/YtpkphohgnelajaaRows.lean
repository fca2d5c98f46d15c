/-
  No cell of these rows narrows 'for every input' (looked for: loops, veiled, ifaces, maps, wideKeys, modest, calm, conditions, laid).
  DERIVED. THE GIVEN ROWS OF THIS SEAT. 10 by the template 'for every input the law returns true; each argument reads behind the call as it read before'; 0 by the template 'total and deterministic' (their statements: YtpkphohgnelajaaTotals.lean).
  GIVEN WITH THE SEED: the statements are not yours to turn. If you find one false, say at which input.
  Laid BY PROGRAM, IN A SANDBOX (cutbox-rows.mjs): the forced cells as the released guide's own fill.sh prints them over the translation ddd722f4b2674238… (all of the seat's roots in one cut). By AI agents, Wed Nov 11 2026. No macro, syntax, notation, axiom, sorry.
-/
import Derived.Test.YtpkphohgnelajaaChecked
import GoSem.Claim
import GoSem.ClaimJoined
import GoSem.ClaimMapViews
import Derived.JoinedTies
import Derived.KernelRfl
namespace Go.Proofs.Ytpkphohgnelajaa
/- THE CELL 'sum', in the pinned program and in every row, IS THE sha256 OF THE DUMP (.gsa) THAT YtpkphohgnelajaaProg.lean LOADS. Nothing in Lean hashes anything: it is a label: what it is worth is what the hold of that sum in a sandbox is worth. -/
noncomputable def Try.pinned : Pinned := { name := "ytpkphohgnelajaa", sum := "ddd722f4b267423898acbe425406e9ec31470787444f98ea8f74aa22569d0f5c", checked := Try.checked }
namespace Rows
def none {H : Type} : Left H := { results := [], args := [] }

/-- 'formelaw13.Clamps': WHATEVER THE INPUT: true; the input reads as it did. -/
def clampsSpec : ChangeSpec := { name := "clamps", fn := fun _ => fun
  | [d1, d2, d3, d4, d5] => { results := [.lit (.bool true)], args := [d1, d2, d3, d4, d5] }
  | _ => none }
def clampsRow : OpenClaim := { program := "ytpkphohgnelajaa", sum := "ddd722f4b267423898acbe425406e9ec31470787444f98ea8f74aa22569d0f5c", func := "forme/formelaw13.Clamps", spec := "clamps", unfollowed := true, recurses := true, apart := false }
def ClampsSaid : Prop := clampsRow.holds Try.pinned (OpenSpec.ofChange clampsSpec)

/-- ITS FALSE NEIGHBOUR: 'it returns false'. Refute it at one input. -/
def clampsWrong : ChangeSpec := { name := "clamps", fn := fun _ => fun
  | [d1, d2, d3, d4, d5] => { results := [.lit (.bool false)], args := [d1, d2, d3, d4, d5] }
  | _ => none }
def ClampsWrongFalsely : Prop := clampsRow.holds Try.pinned (OpenSpec.ofChange clampsWrong)

/-- 'formelaw13.ClampTwice': WHATEVER THE INPUT: true; the input reads as it did. -/
def clampTwiceSpec : ChangeSpec := { name := "clampTwice", fn := fun _ => fun
  | [d1, d2, d3] => { results := [.lit (.bool true)], args := [d1, d2, d3] }
  | _ => none }
def clampTwiceRow : OpenClaim := { program := "ytpkphohgnelajaa", sum := "ddd722f4b267423898acbe425406e9ec31470787444f98ea8f74aa22569d0f5c", func := "forme/formelaw13.ClampTwice", spec := "clampTwice", unfollowed := true, recurses := true, apart := false }
def ClampTwiceSaid : Prop := clampTwiceRow.holds Try.pinned (OpenSpec.ofChange clampTwiceSpec)

/-- ITS FALSE NEIGHBOUR: 'it returns false'. Refute it at one input. -/
def clampTwiceWrong : ChangeSpec := { name := "clampTwice", fn := fun _ => fun
  | [d1, d2, d3] => { results := [.lit (.bool false)], args := [d1, d2, d3] }
  | _ => none }
def ClampTwiceWrongFalsely : Prop := clampTwiceRow.holds Try.pinned (OpenSpec.ofChange clampTwiceWrong)

/-- 'formelaw13.ClampForms': WHATEVER THE INPUT: true; the input reads as it did. -/
def clampFormsSpec : ChangeSpec := { name := "clampForms", fn := fun _ => fun
  | [d1, d2] => { results := [.lit (.bool true)], args := [d1, d2] }
  | _ => none }
def clampFormsRow : OpenClaim := { program := "ytpkphohgnelajaa", sum := "ddd722f4b267423898acbe425406e9ec31470787444f98ea8f74aa22569d0f5c", func := "forme/formelaw13.ClampForms", spec := "clampForms", unfollowed := true, recurses := true, apart := false }
def ClampFormsSaid : Prop := clampFormsRow.holds Try.pinned (OpenSpec.ofChange clampFormsSpec)

/-- ITS FALSE NEIGHBOUR: 'it returns false'. Refute it at one input. -/
def clampFormsWrong : ChangeSpec := { name := "clampForms", fn := fun _ => fun
  | [d1, d2] => { results := [.lit (.bool false)], args := [d1, d2] }
  | _ => none }
def ClampFormsWrongFalsely : Prop := clampFormsRow.holds Try.pinned (OpenSpec.ofChange clampFormsWrong)

/-- 'formelaw13.ClampTable': WHATEVER THE INPUT: true; the input reads as it did. -/
def clampTableSpec : ChangeSpec := { name := "clampTable", fn := fun _ => fun
  | [d1, d2, d3] => { results := [.lit (.bool true)], args := [d1, d2, d3] }
  | _ => none }
def clampTableRow : OpenClaim := { program := "ytpkphohgnelajaa", sum := "ddd722f4b267423898acbe425406e9ec31470787444f98ea8f74aa22569d0f5c", func := "forme/formelaw13.ClampTable", spec := "clampTable", unfollowed := true, recurses := true, apart := false }
def ClampTableSaid : Prop := clampTableRow.holds Try.pinned (OpenSpec.ofChange clampTableSpec)

/-- ITS FALSE NEIGHBOUR: 'it returns false'. Refute it at one input. -/
def clampTableWrong : ChangeSpec := { name := "clampTable", fn := fun _ => fun
  | [d1, d2, d3] => { results := [.lit (.bool false)], args := [d1, d2, d3] }
  | _ => none }
def ClampTableWrongFalsely : Prop := clampTableRow.holds Try.pinned (OpenSpec.ofChange clampTableWrong)

/-- 'formelaw13.ClampMore': WHATEVER THE INPUT: true; the input reads as it did. -/
def clampMoreSpec : ChangeSpec := { name := "clampMore", fn := fun _ => fun
  | [d1, d2, d3, d4] => { results := [.lit (.bool true)], args := [d1, d2, d3, d4] }
  | _ => none }
def clampMoreRow : OpenClaim := { program := "ytpkphohgnelajaa", sum := "ddd722f4b267423898acbe425406e9ec31470787444f98ea8f74aa22569d0f5c", func := "forme/formelaw13.ClampMore", spec := "clampMore", unfollowed := true, recurses := true, apart := false }
def ClampMoreSaid : Prop := clampMoreRow.holds Try.pinned (OpenSpec.ofChange clampMoreSpec)

/-- ITS FALSE NEIGHBOUR: 'it returns false'. Refute it at one input. -/
def clampMoreWrong : ChangeSpec := { name := "clampMore", fn := fun _ => fun
  | [d1, d2, d3, d4] => { results := [.lit (.bool false)], args := [d1, d2, d3, d4] }
  | _ => none }
def ClampMoreWrongFalsely : Prop := clampMoreRow.holds Try.pinned (OpenSpec.ofChange clampMoreWrong)

/-- 'formelaw14.Equations': WHATEVER THE INPUT: true; the input reads as it did. -/
def equationsSpec : ChangeSpec := { name := "equations", fn := fun _ => fun
  | [d1, d2] => { results := [.lit (.bool true)], args := [d1, d2] }
  | _ => none }
def equationsRow : OpenClaim := { program := "ytpkphohgnelajaa", sum := "ddd722f4b267423898acbe425406e9ec31470787444f98ea8f74aa22569d0f5c", func := "forme/formelaw14.Equations", spec := "equations", unfollowed := true, recurses := true, apart := false }
def EquationsSaid : Prop := equationsRow.holds Try.pinned (OpenSpec.ofChange equationsSpec)

/-- ITS FALSE NEIGHBOUR: 'it returns false'. Refute it at one input. -/
def equationsWrong : ChangeSpec := { name := "equations", fn := fun _ => fun
  | [d1, d2] => { results := [.lit (.bool false)], args := [d1, d2] }
  | _ => none }
def EquationsWrongFalsely : Prop := equationsRow.holds Try.pinned (OpenSpec.ofChange equationsWrong)

/-- 'formelaw14.EquationSum': WHATEVER THE INPUT: true; the input reads as it did. -/
def equationSumSpec : ChangeSpec := { name := "equationSum", fn := fun _ => fun
  | [d1, d2] => { results := [.lit (.bool true)], args := [d1, d2] }
  | _ => none }
def equationSumRow : OpenClaim := { program := "ytpkphohgnelajaa", sum := "ddd722f4b267423898acbe425406e9ec31470787444f98ea8f74aa22569d0f5c", func := "forme/formelaw14.EquationSum", spec := "equationSum", unfollowed := true, recurses := true, apart := false }
def EquationSumSaid : Prop := equationSumRow.holds Try.pinned (OpenSpec.ofChange equationSumSpec)

/-- ITS FALSE NEIGHBOUR: 'it returns false'. Refute it at one input. -/
def equationSumWrong : ChangeSpec := { name := "equationSum", fn := fun _ => fun
  | [d1, d2] => { results := [.lit (.bool false)], args := [d1, d2] }
  | _ => none }
def EquationSumWrongFalsely : Prop := equationSumRow.holds Try.pinned (OpenSpec.ofChange equationSumWrong)

/-- 'formelaw14.EquationForms': WHATEVER THE INPUT: true; the input reads as it did. -/
def equationFormsSpec : ChangeSpec := { name := "equationForms", fn := fun _ => fun
  | [d1, d2] => { results := [.lit (.bool true)], args := [d1, d2] }
  | _ => none }
def equationFormsRow : OpenClaim := { program := "ytpkphohgnelajaa", sum := "ddd722f4b267423898acbe425406e9ec31470787444f98ea8f74aa22569d0f5c", func := "forme/formelaw14.EquationForms", spec := "equationForms", unfollowed := true, recurses := true, apart := false }
def EquationFormsSaid : Prop := equationFormsRow.holds Try.pinned (OpenSpec.ofChange equationFormsSpec)

/-- ITS FALSE NEIGHBOUR: 'it returns false'. Refute it at one input. -/
def equationFormsWrong : ChangeSpec := { name := "equationForms", fn := fun _ => fun
  | [d1, d2] => { results := [.lit (.bool false)], args := [d1, d2] }
  | _ => none }
def EquationFormsWrongFalsely : Prop := equationFormsRow.holds Try.pinned (OpenSpec.ofChange equationFormsWrong)

/-- 'formelaw14.EquationTable': WHATEVER THE INPUT: true; the input reads as it did. -/
def equationTableSpec : ChangeSpec := { name := "equationTable", fn := fun _ => fun
  | [d1, d2, d3] => { results := [.lit (.bool true)], args := [d1, d2, d3] }
  | _ => none }
def equationTableRow : OpenClaim := { program := "ytpkphohgnelajaa", sum := "ddd722f4b267423898acbe425406e9ec31470787444f98ea8f74aa22569d0f5c", func := "forme/formelaw14.EquationTable", spec := "equationTable", unfollowed := true, recurses := true, apart := false }
def EquationTableSaid : Prop := equationTableRow.holds Try.pinned (OpenSpec.ofChange equationTableSpec)

/-- ITS FALSE NEIGHBOUR: 'it returns false'. Refute it at one input. -/
def equationTableWrong : ChangeSpec := { name := "equationTable", fn := fun _ => fun
  | [d1, d2, d3] => { results := [.lit (.bool false)], args := [d1, d2, d3] }
  | _ => none }
def EquationTableWrongFalsely : Prop := equationTableRow.holds Try.pinned (OpenSpec.ofChange equationTableWrong)

/-- 'formelaw14.EquationAuto': WHATEVER THE INPUT: true; the input reads as it did. -/
def equationAutoSpec : ChangeSpec := { name := "equationAuto", fn := fun _ => fun
  | [d1, d2] => { results := [.lit (.bool true)], args := [d1, d2] }
  | _ => none }
def equationAutoRow : OpenClaim := { program := "ytpkphohgnelajaa", sum := "ddd722f4b267423898acbe425406e9ec31470787444f98ea8f74aa22569d0f5c", func := "forme/formelaw14.EquationAuto", spec := "equationAuto", unfollowed := true, recurses := true, apart := false }
def EquationAutoSaid : Prop := equationAutoRow.holds Try.pinned (OpenSpec.ofChange equationAutoSpec)

/-- ITS FALSE NEIGHBOUR: 'it returns false'. Refute it at one input. -/
def equationAutoWrong : ChangeSpec := { name := "equationAuto", fn := fun _ => fun
  | [d1, d2] => { results := [.lit (.bool false)], args := [d1, d2] }
  | _ => none }
def EquationAutoWrongFalsely : Prop := equationAutoRow.holds Try.pinned (OpenSpec.ofChange equationAutoWrong)

/- THE SECOND FORM. 'bulk': how many values and letters a reading holds, each counted each time it is reached (what is shared counts as often as it is met; a slice's spare places count too). A statement '..UptoSaid' is the law's where the arguments, and the package variables that the reading takes, are together of bulk at most 1048576: NARROWER than '..Said'. Prove '..Said' where nothing that the law and all that it calls make is longer than what came in: it says more and counts as full. Else prove '..UptoSaid'. A law counts once. -/
mutual
def uptoBulk {H : Type} : DataW H → Nat
  | .lit (.string bytes) => bytes.length + 1
  | .lit _ => 1
  | .nil => 1
  | .ptr d => uptoBulk d + 1
  | .slice elems spare => uptoBulkAll elems + uptoBulkAll spare + 1
  | .agg parts => uptoBulkAll parts + 1
  | .iface _ d => uptoBulk d + 1
  | .map entries => uptoBulkEntries entries + 1
  | .held _ => 1
def uptoBulkAll {H : Type} : List (DataW H) → Nat
  | [] => 0
  | d :: r => uptoBulk d + uptoBulkAll r
def uptoBulkEntries {H : Type} : List (Lit × DataW H) → Nat
  | [] => 0
  | x :: r => uptoBulkEntry x + uptoBulkEntries r
def uptoBulkEntry {H : Type} : Lit × DataW H → Nat
  | (.string bytes, d) => bytes.length + uptoBulk d + 1
  | (_, d) => uptoBulk d + 1
 end
def uptoSmall : (H : Type) → List (DataW H) → Bool := fun _ ds => decide (uptoBulkAll ds ≤ 1048576)
def OpenSpec.upto (s : _root_.Go.ChangeSpec) : _root_.Go.OpenSpec := { _root_.Go.OpenSpec.ofChange s with cond := some uptoSmall }

/-- 'formelaw13.Clamps', WHERE WHAT IT READS IS OF BULK AT MOST 1048576: true; the input reads as it did. -/
def clampsUptoRow : OpenClaim := { program := "ytpkphohgnelajaa", sum := "ddd722f4b267423898acbe425406e9ec31470787444f98ea8f74aa22569d0f5c", func := "forme/formelaw13.Clamps", spec := "clamps", unfollowed := true, recurses := true, apart := false, narrowed := true }
def ClampsUptoSaid : Prop := clampsUptoRow.holds Try.pinned (OpenSpec.upto clampsSpec)

/-- 'formelaw13.ClampTwice', WHERE WHAT IT READS IS OF BULK AT MOST 1048576: true; the input reads as it did. -/
def clampTwiceUptoRow : OpenClaim := { program := "ytpkphohgnelajaa", sum := "ddd722f4b267423898acbe425406e9ec31470787444f98ea8f74aa22569d0f5c", func := "forme/formelaw13.ClampTwice", spec := "clampTwice", unfollowed := true, recurses := true, apart := false, narrowed := true }
def ClampTwiceUptoSaid : Prop := clampTwiceUptoRow.holds Try.pinned (OpenSpec.upto clampTwiceSpec)

/-- 'formelaw13.ClampForms', WHERE WHAT IT READS IS OF BULK AT MOST 1048576: true; the input reads as it did. -/
def clampFormsUptoRow : OpenClaim := { program := "ytpkphohgnelajaa", sum := "ddd722f4b267423898acbe425406e9ec31470787444f98ea8f74aa22569d0f5c", func := "forme/formelaw13.ClampForms", spec := "clampForms", unfollowed := true, recurses := true, apart := false, narrowed := true }
def ClampFormsUptoSaid : Prop := clampFormsUptoRow.holds Try.pinned (OpenSpec.upto clampFormsSpec)

/-- 'formelaw13.ClampTable', WHERE WHAT IT READS IS OF BULK AT MOST 1048576: true; the input reads as it did. -/
def clampTableUptoRow : OpenClaim := { program := "ytpkphohgnelajaa", sum := "ddd722f4b267423898acbe425406e9ec31470787444f98ea8f74aa22569d0f5c", func := "forme/formelaw13.ClampTable", spec := "clampTable", unfollowed := true, recurses := true, apart := false, narrowed := true }
def ClampTableUptoSaid : Prop := clampTableUptoRow.holds Try.pinned (OpenSpec.upto clampTableSpec)

/-- 'formelaw13.ClampMore', WHERE WHAT IT READS IS OF BULK AT MOST 1048576: true; the input reads as it did. -/
def clampMoreUptoRow : OpenClaim := { program := "ytpkphohgnelajaa", sum := "ddd722f4b267423898acbe425406e9ec31470787444f98ea8f74aa22569d0f5c", func := "forme/formelaw13.ClampMore", spec := "clampMore", unfollowed := true, recurses := true, apart := false, narrowed := true }
def ClampMoreUptoSaid : Prop := clampMoreUptoRow.holds Try.pinned (OpenSpec.upto clampMoreSpec)

/-- 'formelaw14.Equations', WHERE WHAT IT READS IS OF BULK AT MOST 1048576: true; the input reads as it did. -/
def equationsUptoRow : OpenClaim := { program := "ytpkphohgnelajaa", sum := "ddd722f4b267423898acbe425406e9ec31470787444f98ea8f74aa22569d0f5c", func := "forme/formelaw14.Equations", spec := "equations", unfollowed := true, recurses := true, apart := false, narrowed := true }
def EquationsUptoSaid : Prop := equationsUptoRow.holds Try.pinned (OpenSpec.upto equationsSpec)

/-- 'formelaw14.EquationSum', WHERE WHAT IT READS IS OF BULK AT MOST 1048576: true; the input reads as it did. -/
def equationSumUptoRow : OpenClaim := { program := "ytpkphohgnelajaa", sum := "ddd722f4b267423898acbe425406e9ec31470787444f98ea8f74aa22569d0f5c", func := "forme/formelaw14.EquationSum", spec := "equationSum", unfollowed := true, recurses := true, apart := false, narrowed := true }
def EquationSumUptoSaid : Prop := equationSumUptoRow.holds Try.pinned (OpenSpec.upto equationSumSpec)

/-- 'formelaw14.EquationForms', WHERE WHAT IT READS IS OF BULK AT MOST 1048576: true; the input reads as it did. -/
def equationFormsUptoRow : OpenClaim := { program := "ytpkphohgnelajaa", sum := "ddd722f4b267423898acbe425406e9ec31470787444f98ea8f74aa22569d0f5c", func := "forme/formelaw14.EquationForms", spec := "equationForms", unfollowed := true, recurses := true, apart := false, narrowed := true }
def EquationFormsUptoSaid : Prop := equationFormsUptoRow.holds Try.pinned (OpenSpec.upto equationFormsSpec)

/-- 'formelaw14.EquationTable', WHERE WHAT IT READS IS OF BULK AT MOST 1048576: true; the input reads as it did. -/
def equationTableUptoRow : OpenClaim := { program := "ytpkphohgnelajaa", sum := "ddd722f4b267423898acbe425406e9ec31470787444f98ea8f74aa22569d0f5c", func := "forme/formelaw14.EquationTable", spec := "equationTable", unfollowed := true, recurses := true, apart := false, narrowed := true }
def EquationTableUptoSaid : Prop := equationTableUptoRow.holds Try.pinned (OpenSpec.upto equationTableSpec)

/-- 'formelaw14.EquationAuto', WHERE WHAT IT READS IS OF BULK AT MOST 1048576: true; the input reads as it did. -/
def equationAutoUptoRow : OpenClaim := { program := "ytpkphohgnelajaa", sum := "ddd722f4b267423898acbe425406e9ec31470787444f98ea8f74aa22569d0f5c", func := "forme/formelaw14.EquationAuto", spec := "equationAuto", unfollowed := true, recurses := true, apart := false, narrowed := true }
def EquationAutoUptoSaid : Prop := equationAutoUptoRow.holds Try.pinned (OpenSpec.upto equationAutoSpec)

end Rows
end Go.Proofs.Ytpkphohgnelajaa
