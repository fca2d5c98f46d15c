/-
  No cell of these rows narrows 'for every input' (looked for: loops, veiled, ifaces, maps, wideKeys, modest, calm, conditions, laid).
  DERIVED. THE GIVEN ROWS OF THIS SEAT. 8 by the template 'for every input the law returns true; each argument reads behind the call as it read before'; 0 by the template 'total and deterministic' (their statements: YtpjppnomfponfaaTotals.lean).
  GIVEN WITH THE SEED: the statements are not yours to turn. If you find one false, say at which input.
  Laid BY PROGRAM, IN A SANDBOX (cutbox-rows.mjs): the forced cells as the released guide's own fill.sh prints them over the translation 1f375f2f0afc6cda… (all of the seat's roots in one cut). By AI agents, Wed Nov 11 2026. No macro, syntax, notation, axiom, sorry.
-/
import Derived.Test.YtpjppnomfponfaaChecked
import GoSem.Claim
import GoSem.ClaimJoined
import GoSem.ClaimMapViews
import Derived.JoinedTies
import Derived.KernelRfl
namespace Go.Proofs.Ytpjppnomfponfaa
/- THE CELL 'sum', in the pinned program and in every row, IS THE sha256 OF THE DUMP (.gsa) THAT YtpjppnomfponfaaProg.lean LOADS. Nothing in Lean hashes anything: it is a label: what it is worth is what the hold of that sum in a sandbox is worth. -/
noncomputable def Try.pinned : Pinned := { name := "ytpjppnomfponfaa", sum := "1f375f2f0afc6cda4e692a2e79edeb29407ed42cbe90222365c1973f42e3c948", checked := Try.checked }
namespace Rows
def none {H : Type} : Left H := { results := [], args := [] }

/-- 'formelaw16.BandFree': WHATEVER THE INPUT: true; the input reads as it did. -/
def bandFreeSpec : ChangeSpec := { name := "bandFree", fn := fun _ => fun
  | [d1, d2, d3, d4] => { results := [.lit (.bool true)], args := [d1, d2, d3, d4] }
  | _ => none }
def bandFreeRow : OpenClaim := { program := "ytpjppnomfponfaa", sum := "1f375f2f0afc6cda4e692a2e79edeb29407ed42cbe90222365c1973f42e3c948", func := "forme/formelaw16.BandFree", spec := "bandFree", unfollowed := true, recurses := true, apart := false }
def BandFreeSaid : Prop := bandFreeRow.holds Try.pinned (OpenSpec.ofChange bandFreeSpec)

/-- ITS FALSE NEIGHBOUR: 'it returns false'. Refute it at one input. -/
def bandFreeWrong : ChangeSpec := { name := "bandFree", fn := fun _ => fun
  | [d1, d2, d3, d4] => { results := [.lit (.bool false)], args := [d1, d2, d3, d4] }
  | _ => none }
def BandFreeWrongFalsely : Prop := bandFreeRow.holds Try.pinned (OpenSpec.ofChange bandFreeWrong)

/-- 'formelaw16.BandForms': WHATEVER THE INPUT: true; the input reads as it did. -/
def bandFormsSpec : ChangeSpec := { name := "bandForms", fn := fun _ => fun
  | [d1, d2] => { results := [.lit (.bool true)], args := [d1, d2] }
  | _ => none }
def bandFormsRow : OpenClaim := { program := "ytpjppnomfponfaa", sum := "1f375f2f0afc6cda4e692a2e79edeb29407ed42cbe90222365c1973f42e3c948", func := "forme/formelaw16.BandForms", spec := "bandForms", unfollowed := true, recurses := true, apart := false }
def BandFormsSaid : Prop := bandFormsRow.holds Try.pinned (OpenSpec.ofChange bandFormsSpec)

/-- ITS FALSE NEIGHBOUR: 'it returns false'. Refute it at one input. -/
def bandFormsWrong : ChangeSpec := { name := "bandForms", fn := fun _ => fun
  | [d1, d2] => { results := [.lit (.bool false)], args := [d1, d2] }
  | _ => none }
def BandFormsWrongFalsely : Prop := bandFormsRow.holds Try.pinned (OpenSpec.ofChange bandFormsWrong)

/-- 'formelaw16.BandTable': WHATEVER THE INPUT: true; the input reads as it did. -/
def bandTableSpec : ChangeSpec := { name := "bandTable", fn := fun _ => fun
  | [d1, d2] => { results := [.lit (.bool true)], args := [d1, d2] }
  | _ => none }
def bandTableRow : OpenClaim := { program := "ytpjppnomfponfaa", sum := "1f375f2f0afc6cda4e692a2e79edeb29407ed42cbe90222365c1973f42e3c948", func := "forme/formelaw16.BandTable", spec := "bandTable", unfollowed := true, recurses := true, apart := false }
def BandTableSaid : Prop := bandTableRow.holds Try.pinned (OpenSpec.ofChange bandTableSpec)

/-- ITS FALSE NEIGHBOUR: 'it returns false'. Refute it at one input. -/
def bandTableWrong : ChangeSpec := { name := "bandTable", fn := fun _ => fun
  | [d1, d2] => { results := [.lit (.bool false)], args := [d1, d2] }
  | _ => none }
def BandTableWrongFalsely : Prop := bandTableRow.holds Try.pinned (OpenSpec.ofChange bandTableWrong)

/-- 'formelaw16.BandHigher': WHATEVER THE INPUT: true; the input reads as it did. -/
def bandHigherSpec : ChangeSpec := { name := "bandHigher", fn := fun _ => fun
  | [d1, d2, d3, d4, d5] => { results := [.lit (.bool true)], args := [d1, d2, d3, d4, d5] }
  | _ => none }
def bandHigherRow : OpenClaim := { program := "ytpjppnomfponfaa", sum := "1f375f2f0afc6cda4e692a2e79edeb29407ed42cbe90222365c1973f42e3c948", func := "forme/formelaw16.BandHigher", spec := "bandHigher", unfollowed := true, recurses := true, apart := false }
def BandHigherSaid : Prop := bandHigherRow.holds Try.pinned (OpenSpec.ofChange bandHigherSpec)

/-- ITS FALSE NEIGHBOUR: 'it returns false'. Refute it at one input. -/
def bandHigherWrong : ChangeSpec := { name := "bandHigher", fn := fun _ => fun
  | [d1, d2, d3, d4, d5] => { results := [.lit (.bool false)], args := [d1, d2, d3, d4, d5] }
  | _ => none }
def BandHigherWrongFalsely : Prop := bandHigherRow.holds Try.pinned (OpenSpec.ofChange bandHigherWrong)

/-- 'formelaw19.Flexlines': WHATEVER THE INPUT: true; the input reads as it did. -/
def flexlinesSpec : ChangeSpec := { name := "flexlines", fn := fun _ => fun
  | [d1, d2, d3] => { results := [.lit (.bool true)], args := [d1, d2, d3] }
  | _ => none }
def flexlinesRow : OpenClaim := { program := "ytpjppnomfponfaa", sum := "1f375f2f0afc6cda4e692a2e79edeb29407ed42cbe90222365c1973f42e3c948", func := "forme/formelaw19.Flexlines", spec := "flexlines", unfollowed := true, recurses := true, apart := false }
def FlexlinesSaid : Prop := flexlinesRow.holds Try.pinned (OpenSpec.ofChange flexlinesSpec)

/-- ITS FALSE NEIGHBOUR: 'it returns false'. Refute it at one input. -/
def flexlinesWrong : ChangeSpec := { name := "flexlines", fn := fun _ => fun
  | [d1, d2, d3] => { results := [.lit (.bool false)], args := [d1, d2, d3] }
  | _ => none }
def FlexlinesWrongFalsely : Prop := flexlinesRow.holds Try.pinned (OpenSpec.ofChange flexlinesWrong)

/-- 'formelaw19.FlexlineForms': WHATEVER THE INPUT: true; the input reads as it did. -/
def flexlineFormsSpec : ChangeSpec := { name := "flexlineForms", fn := fun _ => fun
  | [d1, d2] => { results := [.lit (.bool true)], args := [d1, d2] }
  | _ => none }
def flexlineFormsRow : OpenClaim := { program := "ytpjppnomfponfaa", sum := "1f375f2f0afc6cda4e692a2e79edeb29407ed42cbe90222365c1973f42e3c948", func := "forme/formelaw19.FlexlineForms", spec := "flexlineForms", unfollowed := true, recurses := true, apart := false }
def FlexlineFormsSaid : Prop := flexlineFormsRow.holds Try.pinned (OpenSpec.ofChange flexlineFormsSpec)

/-- ITS FALSE NEIGHBOUR: 'it returns false'. Refute it at one input. -/
def flexlineFormsWrong : ChangeSpec := { name := "flexlineForms", fn := fun _ => fun
  | [d1, d2] => { results := [.lit (.bool false)], args := [d1, d2] }
  | _ => none }
def FlexlineFormsWrongFalsely : Prop := flexlineFormsRow.holds Try.pinned (OpenSpec.ofChange flexlineFormsWrong)

/-- 'formelaw19.FlexlineSame': WHATEVER THE INPUT: true; the input reads as it did. -/
def flexlineSameSpec : ChangeSpec := { name := "flexlineSame", fn := fun _ => fun
  | [d1, d2, d3] => { results := [.lit (.bool true)], args := [d1, d2, d3] }
  | _ => none }
def flexlineSameRow : OpenClaim := { program := "ytpjppnomfponfaa", sum := "1f375f2f0afc6cda4e692a2e79edeb29407ed42cbe90222365c1973f42e3c948", func := "forme/formelaw19.FlexlineSame", spec := "flexlineSame", unfollowed := true, recurses := true, apart := false }
def FlexlineSameSaid : Prop := flexlineSameRow.holds Try.pinned (OpenSpec.ofChange flexlineSameSpec)

/-- ITS FALSE NEIGHBOUR: 'it returns false'. Refute it at one input. -/
def flexlineSameWrong : ChangeSpec := { name := "flexlineSame", fn := fun _ => fun
  | [d1, d2, d3] => { results := [.lit (.bool false)], args := [d1, d2, d3] }
  | _ => none }
def FlexlineSameWrongFalsely : Prop := flexlineSameRow.holds Try.pinned (OpenSpec.ofChange flexlineSameWrong)

/-- 'formelaw19.FlexlineWide': WHATEVER THE INPUT: true; the input reads as it did. -/
def flexlineWideSpec : ChangeSpec := { name := "flexlineWide", fn := fun _ => fun
  | [d1, d2, d3] => { results := [.lit (.bool true)], args := [d1, d2, d3] }
  | _ => none }
def flexlineWideRow : OpenClaim := { program := "ytpjppnomfponfaa", sum := "1f375f2f0afc6cda4e692a2e79edeb29407ed42cbe90222365c1973f42e3c948", func := "forme/formelaw19.FlexlineWide", spec := "flexlineWide", unfollowed := true, recurses := true, apart := false }
def FlexlineWideSaid : Prop := flexlineWideRow.holds Try.pinned (OpenSpec.ofChange flexlineWideSpec)

/-- ITS FALSE NEIGHBOUR: 'it returns false'. Refute it at one input. -/
def flexlineWideWrong : ChangeSpec := { name := "flexlineWide", fn := fun _ => fun
  | [d1, d2, d3] => { results := [.lit (.bool false)], args := [d1, d2, d3] }
  | _ => none }
def FlexlineWideWrongFalsely : Prop := flexlineWideRow.holds Try.pinned (OpenSpec.ofChange flexlineWideWrong)

/- THE SECOND FORM. 'bulk': how many values and letters a reading holds, each counted each time it is reached (what is shared counts as often as it is met; a slice's spare places count too). A statement '..UptoSaid' is the law's where the arguments, and the package variables that the reading takes, are together of bulk at most 1048576: NARROWER than '..Said'. Prove '..Said' where nothing that the law and all that it calls make is longer than what came in: it says more and counts as full. Else prove '..UptoSaid'. A law counts once. -/
mutual
def uptoBulk {H : Type} : DataW H → Nat
  | .lit (.string bytes) => bytes.length + 1
  | .lit _ => 1
  | .nil => 1
  | .ptr d => uptoBulk d + 1
  | .slice elems spare => uptoBulkAll elems + uptoBulkAll spare + 1
  | .agg parts => uptoBulkAll parts + 1
  | .iface _ d => uptoBulk d + 1
  | .map entries => uptoBulkEntries entries + 1
  | .held _ => 1
def uptoBulkAll {H : Type} : List (DataW H) → Nat
  | [] => 0
  | d :: r => uptoBulk d + uptoBulkAll r
def uptoBulkEntries {H : Type} : List (Lit × DataW H) → Nat
  | [] => 0
  | x :: r => uptoBulkEntry x + uptoBulkEntries r
def uptoBulkEntry {H : Type} : Lit × DataW H → Nat
  | (.string bytes, d) => bytes.length + uptoBulk d + 1
  | (_, d) => uptoBulk d + 1
 end
def uptoSmall : (H : Type) → List (DataW H) → Bool := fun _ ds => decide (uptoBulkAll ds ≤ 1048576)
def OpenSpec.upto (s : _root_.Go.ChangeSpec) : _root_.Go.OpenSpec := { _root_.Go.OpenSpec.ofChange s with cond := some uptoSmall }

/-- 'formelaw16.BandFree', WHERE WHAT IT READS IS OF BULK AT MOST 1048576: true; the input reads as it did. -/
def bandFreeUptoRow : OpenClaim := { program := "ytpjppnomfponfaa", sum := "1f375f2f0afc6cda4e692a2e79edeb29407ed42cbe90222365c1973f42e3c948", func := "forme/formelaw16.BandFree", spec := "bandFree", unfollowed := true, recurses := true, apart := false, narrowed := true }
def BandFreeUptoSaid : Prop := bandFreeUptoRow.holds Try.pinned (OpenSpec.upto bandFreeSpec)

/-- 'formelaw16.BandForms', WHERE WHAT IT READS IS OF BULK AT MOST 1048576: true; the input reads as it did. -/
def bandFormsUptoRow : OpenClaim := { program := "ytpjppnomfponfaa", sum := "1f375f2f0afc6cda4e692a2e79edeb29407ed42cbe90222365c1973f42e3c948", func := "forme/formelaw16.BandForms", spec := "bandForms", unfollowed := true, recurses := true, apart := false, narrowed := true }
def BandFormsUptoSaid : Prop := bandFormsUptoRow.holds Try.pinned (OpenSpec.upto bandFormsSpec)

/-- 'formelaw16.BandTable', WHERE WHAT IT READS IS OF BULK AT MOST 1048576: true; the input reads as it did. -/
def bandTableUptoRow : OpenClaim := { program := "ytpjppnomfponfaa", sum := "1f375f2f0afc6cda4e692a2e79edeb29407ed42cbe90222365c1973f42e3c948", func := "forme/formelaw16.BandTable", spec := "bandTable", unfollowed := true, recurses := true, apart := false, narrowed := true }
def BandTableUptoSaid : Prop := bandTableUptoRow.holds Try.pinned (OpenSpec.upto bandTableSpec)

/-- 'formelaw16.BandHigher', WHERE WHAT IT READS IS OF BULK AT MOST 1048576: true; the input reads as it did. -/
def bandHigherUptoRow : OpenClaim := { program := "ytpjppnomfponfaa", sum := "1f375f2f0afc6cda4e692a2e79edeb29407ed42cbe90222365c1973f42e3c948", func := "forme/formelaw16.BandHigher", spec := "bandHigher", unfollowed := true, recurses := true, apart := false, narrowed := true }
def BandHigherUptoSaid : Prop := bandHigherUptoRow.holds Try.pinned (OpenSpec.upto bandHigherSpec)

/-- 'formelaw19.Flexlines', WHERE WHAT IT READS IS OF BULK AT MOST 1048576: true; the input reads as it did. -/
def flexlinesUptoRow : OpenClaim := { program := "ytpjppnomfponfaa", sum := "1f375f2f0afc6cda4e692a2e79edeb29407ed42cbe90222365c1973f42e3c948", func := "forme/formelaw19.Flexlines", spec := "flexlines", unfollowed := true, recurses := true, apart := false, narrowed := true }
def FlexlinesUptoSaid : Prop := flexlinesUptoRow.holds Try.pinned (OpenSpec.upto flexlinesSpec)

/-- 'formelaw19.FlexlineForms', WHERE WHAT IT READS IS OF BULK AT MOST 1048576: true; the input reads as it did. -/
def flexlineFormsUptoRow : OpenClaim := { program := "ytpjppnomfponfaa", sum := "1f375f2f0afc6cda4e692a2e79edeb29407ed42cbe90222365c1973f42e3c948", func := "forme/formelaw19.FlexlineForms", spec := "flexlineForms", unfollowed := true, recurses := true, apart := false, narrowed := true }
def FlexlineFormsUptoSaid : Prop := flexlineFormsUptoRow.holds Try.pinned (OpenSpec.upto flexlineFormsSpec)

/-- 'formelaw19.FlexlineSame', WHERE WHAT IT READS IS OF BULK AT MOST 1048576: true; the input reads as it did. -/
def flexlineSameUptoRow : OpenClaim := { program := "ytpjppnomfponfaa", sum := "1f375f2f0afc6cda4e692a2e79edeb29407ed42cbe90222365c1973f42e3c948", func := "forme/formelaw19.FlexlineSame", spec := "flexlineSame", unfollowed := true, recurses := true, apart := false, narrowed := true }
def FlexlineSameUptoSaid : Prop := flexlineSameUptoRow.holds Try.pinned (OpenSpec.upto flexlineSameSpec)

/-- 'formelaw19.FlexlineWide', WHERE WHAT IT READS IS OF BULK AT MOST 1048576: true; the input reads as it did. -/
def flexlineWideUptoRow : OpenClaim := { program := "ytpjppnomfponfaa", sum := "1f375f2f0afc6cda4e692a2e79edeb29407ed42cbe90222365c1973f42e3c948", func := "forme/formelaw19.FlexlineWide", spec := "flexlineWide", unfollowed := true, recurses := true, apart := false, narrowed := true }
def FlexlineWideUptoSaid : Prop := flexlineWideUptoRow.holds Try.pinned (OpenSpec.upto flexlineWideSpec)

end Rows
end Go.Proofs.Ytpjppnomfponfaa
