/-
  NARROWER THAN 'FOR EVERY INPUT', by the rows' own cells (each row's printed sentence says how): Trees: laid · TreeAll: laid · TreeForms: laid · TreeDeep: laid · TreeCut: laid · IntrinsicText: laid · IntrinsicForms: laid · IntrinsicRows: laid · IntrinsicLess: laid.
  DERIVED. THE GIVEN ROWS OF THIS SEAT. 9 by the template 'for every input the law returns true; each argument reads behind the call as it read before'; 0 by the template 'total and deterministic' (their statements: YtpblajjfgnhkdaaDoorTotals.lean).
  GIVEN WITH THE SEED: the statements are not yours to turn. If you find one false, say at which input.
  Laid BY PROGRAM, IN A SANDBOX (cutbox-rows.mjs): the forced cells as the released guide's own fill.sh prints them over the translation 139e9b3c40bea911… (all of the seat's roots in one cut). By AI agents, Wed Nov 11 2026. No macro, syntax, notation, axiom, sorry.
-/
import Derived.Test.YtpblajjfgnhkdaaDoorChecked
import GoSem.Claim
import GoSem.ClaimJoined
import GoSem.ClaimMapViews
import Derived.JoinedTies
import Derived.KernelRfl
namespace Go.Proofs.YtpblajjfgnhkdaaDoor
/- THE CELL 'sum', in the pinned program and in every row, IS THE sha256 OF THE DUMP (.gsa) THAT YtpblajjfgnhkdaaDoorProg.lean LOADS. Nothing in Lean hashes anything: it is a label: what it is worth is what the hold of that sum in a sandbox is worth. -/
noncomputable def Tryd.pinned : Pinned := { name := "ytpblajjfgnhkdaadoor", sum := "139e9b3c40bea911c631a5b5bb3a3b6191ca9833fa659528dc312b4677c234eb", checked := Tryd.checked }
namespace Rows
def none {H : Type} : Left H := { results := [], args := [] }

/- WHAT THE LISTED PACKAGE-LEVEL VARIABLES READ AS WHEN THE CALL BEGINS. Each datum BY PROGRAM (the guide's laid-datum.mjs) off the statement by which the dump's own 'gosem.cut.vars' lays the variable. In a bare row this is a premise. The card (YtpblajjfgnhkdaaDoorCards.lean) ties it to the program's text. -/
def laid_forme_prop_names {H : Type} : DataW H := .agg [.lit (.string [105, 110, 108, 105, 110, 101, 45, 115, 105, 122, 101]), .lit (.string [98, 108, 111, 99, 107, 45, 115, 105, 122, 101]), .lit (.string [119, 105, 100, 116, 104]), .lit (.string [104, 101, 105, 103, 104, 116]), .lit (.string [109, 105, 110, 45, 105, 110, 108, 105, 110, 101, 45, 115, 105, 122, 101]), .lit (.string [109, 97, 120, 45, 105, 110, 108, 105, 110, 101, 45, 115, 105, 122, 101]), .lit (.string [109, 97, 114, 103, 105, 110, 45, 105, 110, 108, 105, 110, 101, 45, 115, 116, 97, 114, 116]), .lit (.string [109, 97, 114, 103, 105, 110, 45, 105, 110, 108, 105, 110, 101, 45, 101, 110, 100]), .lit (.string [109, 97, 114, 103, 105, 110, 45, 98, 108, 111, 99, 107, 45, 115, 116, 97, 114, 116]), .lit (.string [109, 97, 114, 103, 105, 110, 45, 98, 108, 111, 99, 107, 45, 101, 110, 100]), .lit (.string [109, 97, 114, 103, 105, 110, 45, 116, 111, 112]), .lit (.string [109, 97, 114, 103, 105, 110, 45, 114, 105, 103, 104, 116]), .lit (.string [109, 97, 114, 103, 105, 110, 45, 98, 111, 116, 116, 111, 109]), .lit (.string [109, 97, 114, 103, 105, 110, 45, 108, 101, 102, 116]), .lit (.string [112, 97, 100, 100, 105, 110, 103, 45, 105, 110, 108, 105, 110, 101, 45, 115, 116, 97, 114, 116]), .lit (.string [112, 97, 100, 100, 105, 110, 103, 45, 105, 110, 108, 105, 110, 101, 45, 101, 110, 100]), .lit (.string [112, 97, 100, 100, 105, 110, 103, 45, 98, 108, 111, 99, 107, 45, 115, 116, 97, 114, 116]), .lit (.string [112, 97, 100, 100, 105, 110, 103, 45, 98, 108, 111, 99, 107, 45, 101, 110, 100]), .lit (.string [112, 97, 100, 100, 105, 110, 103, 45, 116, 111, 112]), .lit (.string [112, 97, 100, 100, 105, 110, 103, 45, 114, 105, 103, 104, 116]), .lit (.string [112, 97, 100, 100, 105, 110, 103, 45, 98, 111, 116, 116, 111, 109]), .lit (.string [112, 97, 100, 100, 105, 110, 103, 45, 108, 101, 102, 116]), .lit (.string [102, 108, 101, 120, 45, 98, 97, 115, 105, 115]), .lit (.string [102, 108, 101, 120, 45, 103, 114, 111, 119]), .lit (.string [102, 108, 101, 120, 45, 115, 104, 114, 105, 110, 107]), .lit (.string [116, 101, 120, 116, 45, 97, 108, 105, 103, 110]), .lit (.string [97, 108, 105, 103, 110, 45, 105, 116, 101, 109, 115]), .lit (.string [106, 117, 115, 116, 105, 102, 121, 45, 99, 111, 110, 116, 101, 110, 116]), .lit (.string [102, 108, 101, 120, 45, 119, 114, 97, 112])]
def laid_forme_mode_edges {H : Type} : DataW H := .agg [.agg [.lit (.int .i64 3), .lit (.int .i64 1), .lit (.int .i64 0), .lit (.int .i64 2)], .agg [.lit (.int .i64 0), .lit (.int .i64 2), .lit (.int .i64 1), .lit (.int .i64 3)], .agg [.lit (.int .i64 0), .lit (.int .i64 2), .lit (.int .i64 3), .lit (.int .i64 1)]]
def laid_forme_mode_rightToLeft {H : Type} : DataW H := .agg [.lit (.int .i64 1), .lit (.int .i64 0), .lit (.int .i64 2), .lit (.int .i64 3)]
def laid_math_bits_deBruijn32tab {H : Type} : DataW H := .agg [.lit (.int .u8 0), .lit (.int .u8 1), .lit (.int .u8 28), .lit (.int .u8 2), .lit (.int .u8 29), .lit (.int .u8 14), .lit (.int .u8 24), .lit (.int .u8 3), .lit (.int .u8 30), .lit (.int .u8 22), .lit (.int .u8 20), .lit (.int .u8 15), .lit (.int .u8 25), .lit (.int .u8 17), .lit (.int .u8 4), .lit (.int .u8 8), .lit (.int .u8 31), .lit (.int .u8 27), .lit (.int .u8 13), .lit (.int .u8 23), .lit (.int .u8 21), .lit (.int .u8 19), .lit (.int .u8 16), .lit (.int .u8 7), .lit (.int .u8 26), .lit (.int .u8 12), .lit (.int .u8 18), .lit (.int .u8 6), .lit (.int .u8 11), .lit (.int .u8 5), .lit (.int .u8 10), .lit (.int .u8 9)]
def laid_math_bits_deBruijn64tab {H : Type} : DataW H := .agg [.lit (.int .u8 0), .lit (.int .u8 1), .lit (.int .u8 56), .lit (.int .u8 2), .lit (.int .u8 57), .lit (.int .u8 49), .lit (.int .u8 28), .lit (.int .u8 3), .lit (.int .u8 61), .lit (.int .u8 58), .lit (.int .u8 42), .lit (.int .u8 50), .lit (.int .u8 38), .lit (.int .u8 29), .lit (.int .u8 17), .lit (.int .u8 4), .lit (.int .u8 62), .lit (.int .u8 47), .lit (.int .u8 59), .lit (.int .u8 36), .lit (.int .u8 45), .lit (.int .u8 43), .lit (.int .u8 51), .lit (.int .u8 22), .lit (.int .u8 53), .lit (.int .u8 39), .lit (.int .u8 33), .lit (.int .u8 30), .lit (.int .u8 24), .lit (.int .u8 18), .lit (.int .u8 12), .lit (.int .u8 5), .lit (.int .u8 63), .lit (.int .u8 55), .lit (.int .u8 48), .lit (.int .u8 27), .lit (.int .u8 60), .lit (.int .u8 41), .lit (.int .u8 37), .lit (.int .u8 16), .lit (.int .u8 46), .lit (.int .u8 35), .lit (.int .u8 44), .lit (.int .u8 21), .lit (.int .u8 52), .lit (.int .u8 32), .lit (.int .u8 23), .lit (.int .u8 11), .lit (.int .u8 54), .lit (.int .u8 26), .lit (.int .u8 40), .lit (.int .u8 15), .lit (.int .u8 34), .lit (.int .u8 20), .lit (.int .u8 31), .lit (.int .u8 10), .lit (.int .u8 25), .lit (.int .u8 14), .lit (.int .u8 19), .lit (.int .u8 9), .lit (.int .u8 13), .lit (.int .u8 8), .lit (.int .u8 7), .lit (.int .u8 6)]
def laid_internal_strconv_uint64pow10 {H : Type} : DataW H := .agg [.lit (.int .u64 1), .lit (.int .u64 10), .lit (.int .u64 100), .lit (.int .u64 1000), .lit (.int .u64 10000), .lit (.int .u64 100000), .lit (.int .u64 1000000), .lit (.int .u64 10000000), .lit (.int .u64 100000000), .lit (.int .u64 1000000000), .lit (.int .u64 10000000000), .lit (.int .u64 100000000000), .lit (.int .u64 1000000000000), .lit (.int .u64 10000000000000), .lit (.int .u64 100000000000000), .lit (.int .u64 1000000000000000), .lit (.int .u64 10000000000000000), .lit (.int .u64 100000000000000000), .lit (.int .u64 1000000000000000000), .lit (.int .u64 10000000000000000000)]

/-- 'formelaw11.Trees': WHATEVER THE INPUT: true; the input reads as it did. -/
def treesSpec : ChangeSpec := { name := "trees", fn := fun _ => fun
  | [d1, d2] => { results := [.lit (.bool true)], args := [d1, d2] }
  | _ => none }
def treesRow : OpenClaim := { program := "ytpblajjfgnhkdaadoor", sum := "139e9b3c40bea911c631a5b5bb3a3b6191ca9833fa659528dc312b4677c234eb", func := "forme/formelaw11.Trees", spec := "trees", unfollowed := true, recurses := true, named := ["forme/prop.names"], apart := false, laid := [("forme/prop.names", laid_forme_prop_names)] }
def TreesSaid : Prop := treesRow.holds Tryd.pinned (OpenSpec.ofChange treesSpec)

/-- ITS FALSE NEIGHBOUR: 'it returns false'. Refute it at one input. -/
def treesWrong : ChangeSpec := { name := "trees", fn := fun _ => fun
  | [d1, d2] => { results := [.lit (.bool false)], args := [d1, d2] }
  | _ => none }
def TreesWrongFalsely : Prop := treesRow.holds Tryd.pinned (OpenSpec.ofChange treesWrong)

/-- 'formelaw11.TreeAll': WHATEVER THE INPUT: true; the input reads as it did. -/
def treeAllSpec : ChangeSpec := { name := "treeAll", fn := fun _ => fun
  | [d] => { results := [.lit (.bool true)], args := [d] }
  | _ => none }
def treeAllRow : OpenClaim := { program := "ytpblajjfgnhkdaadoor", sum := "139e9b3c40bea911c631a5b5bb3a3b6191ca9833fa659528dc312b4677c234eb", func := "forme/formelaw11.TreeAll", spec := "treeAll", unfollowed := true, recurses := true, named := ["forme/prop.names"], apart := false, laid := [("forme/prop.names", laid_forme_prop_names)] }
def TreeAllSaid : Prop := treeAllRow.holds Tryd.pinned (OpenSpec.ofChange treeAllSpec)

/-- ITS FALSE NEIGHBOUR: 'it returns false'. Refute it at one input. -/
def treeAllWrong : ChangeSpec := { name := "treeAll", fn := fun _ => fun
  | [d] => { results := [.lit (.bool false)], args := [d] }
  | _ => none }
def TreeAllWrongFalsely : Prop := treeAllRow.holds Tryd.pinned (OpenSpec.ofChange treeAllWrong)

/-- 'formelaw11.TreeForms': WHATEVER THE INPUT: true; the input reads as it did. -/
def treeFormsSpec : ChangeSpec := { name := "treeForms", fn := fun _ => fun
  | [d1, d2] => { results := [.lit (.bool true)], args := [d1, d2] }
  | _ => none }
def treeFormsRow : OpenClaim := { program := "ytpblajjfgnhkdaadoor", sum := "139e9b3c40bea911c631a5b5bb3a3b6191ca9833fa659528dc312b4677c234eb", func := "forme/formelaw11.TreeForms", spec := "treeForms", unfollowed := true, recurses := true, named := ["forme/prop.names"], apart := false, laid := [("forme/prop.names", laid_forme_prop_names)] }
def TreeFormsSaid : Prop := treeFormsRow.holds Tryd.pinned (OpenSpec.ofChange treeFormsSpec)

/-- ITS FALSE NEIGHBOUR: 'it returns false'. Refute it at one input. -/
def treeFormsWrong : ChangeSpec := { name := "treeForms", fn := fun _ => fun
  | [d1, d2] => { results := [.lit (.bool false)], args := [d1, d2] }
  | _ => none }
def TreeFormsWrongFalsely : Prop := treeFormsRow.holds Tryd.pinned (OpenSpec.ofChange treeFormsWrong)

/-- 'formelaw11.TreeDeep': WHATEVER THE INPUT: true; the input reads as it did. -/
def treeDeepSpec : ChangeSpec := { name := "treeDeep", fn := fun _ => fun
  | [d] => { results := [.lit (.bool true)], args := [d] }
  | _ => none }
def treeDeepRow : OpenClaim := { program := "ytpblajjfgnhkdaadoor", sum := "139e9b3c40bea911c631a5b5bb3a3b6191ca9833fa659528dc312b4677c234eb", func := "forme/formelaw11.TreeDeep", spec := "treeDeep", unfollowed := true, recurses := true, named := ["forme/prop.names"], apart := false, laid := [("forme/prop.names", laid_forme_prop_names)] }
def TreeDeepSaid : Prop := treeDeepRow.holds Tryd.pinned (OpenSpec.ofChange treeDeepSpec)

/-- ITS FALSE NEIGHBOUR: 'it returns false'. Refute it at one input. -/
def treeDeepWrong : ChangeSpec := { name := "treeDeep", fn := fun _ => fun
  | [d] => { results := [.lit (.bool false)], args := [d] }
  | _ => none }
def TreeDeepWrongFalsely : Prop := treeDeepRow.holds Tryd.pinned (OpenSpec.ofChange treeDeepWrong)

/-- 'formelaw11.TreeCut': WHATEVER THE INPUT: true; the input reads as it did. -/
def treeCutSpec : ChangeSpec := { name := "treeCut", fn := fun _ => fun
  | [d1, d2, d3] => { results := [.lit (.bool true)], args := [d1, d2, d3] }
  | _ => none }
def treeCutRow : OpenClaim := { program := "ytpblajjfgnhkdaadoor", sum := "139e9b3c40bea911c631a5b5bb3a3b6191ca9833fa659528dc312b4677c234eb", func := "forme/formelaw11.TreeCut", spec := "treeCut", unfollowed := true, recurses := true, named := ["forme/prop.names"], apart := false, laid := [("forme/prop.names", laid_forme_prop_names)] }
def TreeCutSaid : Prop := treeCutRow.holds Tryd.pinned (OpenSpec.ofChange treeCutSpec)

/-- ITS FALSE NEIGHBOUR: 'it returns false'. Refute it at one input. -/
def treeCutWrong : ChangeSpec := { name := "treeCut", fn := fun _ => fun
  | [d1, d2, d3] => { results := [.lit (.bool false)], args := [d1, d2, d3] }
  | _ => none }
def TreeCutWrongFalsely : Prop := treeCutRow.holds Tryd.pinned (OpenSpec.ofChange treeCutWrong)

/-- 'formelaw15.IntrinsicText': WHATEVER THE INPUT: true; the input reads as it did. -/
def intrinsicTextSpec : ChangeSpec := { name := "intrinsicText", fn := fun _ => fun
  | [d1, d2, d3] => { results := [.lit (.bool true)], args := [d1, d2, d3] }
  | _ => none }
def intrinsicTextRow : OpenClaim := { program := "ytpblajjfgnhkdaadoor", sum := "139e9b3c40bea911c631a5b5bb3a3b6191ca9833fa659528dc312b4677c234eb", func := "forme/formelaw15.IntrinsicText", spec := "intrinsicText", unfollowed := true, recurses := true, named := ["forme/prop.names", "forme/mode.rightToLeft", "forme/mode.edges", "internal/strconv.uint64pow10", "math/bits.deBruijn32tab", "math/bits.deBruijn64tab"], apart := false, laid := [("forme/mode.edges", laid_forme_mode_edges), ("forme/mode.rightToLeft", laid_forme_mode_rightToLeft), ("forme/prop.names", laid_forme_prop_names), ("math/bits.deBruijn32tab", laid_math_bits_deBruijn32tab), ("math/bits.deBruijn64tab", laid_math_bits_deBruijn64tab), ("internal/strconv.uint64pow10", laid_internal_strconv_uint64pow10)] }
def IntrinsicTextSaid : Prop := intrinsicTextRow.holds Tryd.pinned (OpenSpec.ofChange intrinsicTextSpec)

/-- ITS FALSE NEIGHBOUR: 'it returns false'. Refute it at one input. -/
def intrinsicTextWrong : ChangeSpec := { name := "intrinsicText", fn := fun _ => fun
  | [d1, d2, d3] => { results := [.lit (.bool false)], args := [d1, d2, d3] }
  | _ => none }
def IntrinsicTextWrongFalsely : Prop := intrinsicTextRow.holds Tryd.pinned (OpenSpec.ofChange intrinsicTextWrong)

/-- 'formelaw15.IntrinsicForms': WHATEVER THE INPUT: true; the input reads as it did. -/
def intrinsicFormsSpec : ChangeSpec := { name := "intrinsicForms", fn := fun _ => fun
  | [d1, d2] => { results := [.lit (.bool true)], args := [d1, d2] }
  | _ => none }
def intrinsicFormsRow : OpenClaim := { program := "ytpblajjfgnhkdaadoor", sum := "139e9b3c40bea911c631a5b5bb3a3b6191ca9833fa659528dc312b4677c234eb", func := "forme/formelaw15.IntrinsicForms", spec := "intrinsicForms", unfollowed := true, recurses := true, named := ["forme/prop.names", "forme/mode.rightToLeft", "forme/mode.edges", "internal/strconv.uint64pow10", "math/bits.deBruijn32tab", "math/bits.deBruijn64tab"], apart := false, laid := [("forme/mode.edges", laid_forme_mode_edges), ("forme/mode.rightToLeft", laid_forme_mode_rightToLeft), ("forme/prop.names", laid_forme_prop_names), ("math/bits.deBruijn32tab", laid_math_bits_deBruijn32tab), ("math/bits.deBruijn64tab", laid_math_bits_deBruijn64tab), ("internal/strconv.uint64pow10", laid_internal_strconv_uint64pow10)] }
def IntrinsicFormsSaid : Prop := intrinsicFormsRow.holds Tryd.pinned (OpenSpec.ofChange intrinsicFormsSpec)

/-- ITS FALSE NEIGHBOUR: 'it returns false'. Refute it at one input. -/
def intrinsicFormsWrong : ChangeSpec := { name := "intrinsicForms", fn := fun _ => fun
  | [d1, d2] => { results := [.lit (.bool false)], args := [d1, d2] }
  | _ => none }
def IntrinsicFormsWrongFalsely : Prop := intrinsicFormsRow.holds Tryd.pinned (OpenSpec.ofChange intrinsicFormsWrong)

/-- 'formelaw15.IntrinsicRows': WHATEVER THE INPUT: true; the input reads as it did. -/
def intrinsicRowsSpec : ChangeSpec := { name := "intrinsicRows", fn := fun _ => fun
  | [d1, d2] => { results := [.lit (.bool true)], args := [d1, d2] }
  | _ => none }
def intrinsicRowsRow : OpenClaim := { program := "ytpblajjfgnhkdaadoor", sum := "139e9b3c40bea911c631a5b5bb3a3b6191ca9833fa659528dc312b4677c234eb", func := "forme/formelaw15.IntrinsicRows", spec := "intrinsicRows", unfollowed := true, recurses := true, named := ["forme/prop.names", "forme/mode.rightToLeft", "forme/mode.edges", "internal/strconv.uint64pow10", "math/bits.deBruijn32tab", "math/bits.deBruijn64tab"], apart := false, laid := [("forme/mode.edges", laid_forme_mode_edges), ("forme/mode.rightToLeft", laid_forme_mode_rightToLeft), ("forme/prop.names", laid_forme_prop_names), ("math/bits.deBruijn32tab", laid_math_bits_deBruijn32tab), ("math/bits.deBruijn64tab", laid_math_bits_deBruijn64tab), ("internal/strconv.uint64pow10", laid_internal_strconv_uint64pow10)] }
def IntrinsicRowsSaid : Prop := intrinsicRowsRow.holds Tryd.pinned (OpenSpec.ofChange intrinsicRowsSpec)

/-- ITS FALSE NEIGHBOUR: 'it returns false'. Refute it at one input. -/
def intrinsicRowsWrong : ChangeSpec := { name := "intrinsicRows", fn := fun _ => fun
  | [d1, d2] => { results := [.lit (.bool false)], args := [d1, d2] }
  | _ => none }
def IntrinsicRowsWrongFalsely : Prop := intrinsicRowsRow.holds Tryd.pinned (OpenSpec.ofChange intrinsicRowsWrong)

/-- 'formelaw15.IntrinsicLess': WHATEVER THE INPUT: true; the input reads as it did. -/
def intrinsicLessSpec : ChangeSpec := { name := "intrinsicLess", fn := fun _ => fun
  | [d1, d2, d3] => { results := [.lit (.bool true)], args := [d1, d2, d3] }
  | _ => none }
def intrinsicLessRow : OpenClaim := { program := "ytpblajjfgnhkdaadoor", sum := "139e9b3c40bea911c631a5b5bb3a3b6191ca9833fa659528dc312b4677c234eb", func := "forme/formelaw15.IntrinsicLess", spec := "intrinsicLess", unfollowed := true, recurses := true, named := ["forme/prop.names", "forme/mode.rightToLeft", "forme/mode.edges", "internal/strconv.uint64pow10", "math/bits.deBruijn32tab", "math/bits.deBruijn64tab"], apart := false, laid := [("forme/mode.edges", laid_forme_mode_edges), ("forme/mode.rightToLeft", laid_forme_mode_rightToLeft), ("forme/prop.names", laid_forme_prop_names), ("math/bits.deBruijn32tab", laid_math_bits_deBruijn32tab), ("math/bits.deBruijn64tab", laid_math_bits_deBruijn64tab), ("internal/strconv.uint64pow10", laid_internal_strconv_uint64pow10)] }
def IntrinsicLessSaid : Prop := intrinsicLessRow.holds Tryd.pinned (OpenSpec.ofChange intrinsicLessSpec)

/-- ITS FALSE NEIGHBOUR: 'it returns false'. Refute it at one input. -/
def intrinsicLessWrong : ChangeSpec := { name := "intrinsicLess", fn := fun _ => fun
  | [d1, d2, d3] => { results := [.lit (.bool false)], args := [d1, d2, d3] }
  | _ => none }
def IntrinsicLessWrongFalsely : Prop := intrinsicLessRow.holds Tryd.pinned (OpenSpec.ofChange intrinsicLessWrong)

/- THE SECOND FORM. 'bulk': how many values and letters a reading holds, each counted each time it is reached (what is shared counts as often as it is met; a slice's spare places count too). A statement '..UptoSaid' is the law's where the arguments, and the package variables that the reading takes, are together of bulk at most 1048576: NARROWER than '..Said'. Prove '..Said' where nothing that the law and all that it calls make is longer than what came in: it says more and counts as full. Else prove '..UptoSaid'. A law counts once. -/
mutual
def uptoBulk {H : Type} : DataW H → Nat
  | .lit (.string bytes) => bytes.length + 1
  | .lit _ => 1
  | .nil => 1
  | .ptr d => uptoBulk d + 1
  | .slice elems spare => uptoBulkAll elems + uptoBulkAll spare + 1
  | .agg parts => uptoBulkAll parts + 1
  | .iface _ d => uptoBulk d + 1
  | .map entries => uptoBulkEntries entries + 1
  | .held _ => 1
def uptoBulkAll {H : Type} : List (DataW H) → Nat
  | [] => 0
  | d :: r => uptoBulk d + uptoBulkAll r
def uptoBulkEntries {H : Type} : List (Lit × DataW H) → Nat
  | [] => 0
  | x :: r => uptoBulkEntry x + uptoBulkEntries r
def uptoBulkEntry {H : Type} : Lit × DataW H → Nat
  | (.string bytes, d) => bytes.length + uptoBulk d + 1
  | (_, d) => uptoBulk d + 1
 end
def uptoSmall : (H : Type) → List (DataW H) → Bool := fun _ ds => decide (uptoBulkAll ds ≤ 1048576)
def OpenSpec.upto (s : _root_.Go.ChangeSpec) : _root_.Go.OpenSpec := { _root_.Go.OpenSpec.ofChange s with cond := some uptoSmall }

/-- 'formelaw11.Trees', WHERE WHAT IT READS IS OF BULK AT MOST 1048576: true; the input reads as it did. -/
def treesUptoRow : OpenClaim := { program := "ytpblajjfgnhkdaadoor", sum := "139e9b3c40bea911c631a5b5bb3a3b6191ca9833fa659528dc312b4677c234eb", func := "forme/formelaw11.Trees", spec := "trees", unfollowed := true, recurses := true, named := ["forme/prop.names"], apart := false, laid := [("forme/prop.names", laid_forme_prop_names)], narrowed := true }
def TreesUptoSaid : Prop := treesUptoRow.holds Tryd.pinned (OpenSpec.upto treesSpec)

/-- 'formelaw11.TreeAll', WHERE WHAT IT READS IS OF BULK AT MOST 1048576: true; the input reads as it did. -/
def treeAllUptoRow : OpenClaim := { program := "ytpblajjfgnhkdaadoor", sum := "139e9b3c40bea911c631a5b5bb3a3b6191ca9833fa659528dc312b4677c234eb", func := "forme/formelaw11.TreeAll", spec := "treeAll", unfollowed := true, recurses := true, named := ["forme/prop.names"], apart := false, laid := [("forme/prop.names", laid_forme_prop_names)], narrowed := true }
def TreeAllUptoSaid : Prop := treeAllUptoRow.holds Tryd.pinned (OpenSpec.upto treeAllSpec)

/-- 'formelaw11.TreeForms', WHERE WHAT IT READS IS OF BULK AT MOST 1048576: true; the input reads as it did. -/
def treeFormsUptoRow : OpenClaim := { program := "ytpblajjfgnhkdaadoor", sum := "139e9b3c40bea911c631a5b5bb3a3b6191ca9833fa659528dc312b4677c234eb", func := "forme/formelaw11.TreeForms", spec := "treeForms", unfollowed := true, recurses := true, named := ["forme/prop.names"], apart := false, laid := [("forme/prop.names", laid_forme_prop_names)], narrowed := true }
def TreeFormsUptoSaid : Prop := treeFormsUptoRow.holds Tryd.pinned (OpenSpec.upto treeFormsSpec)

/-- 'formelaw11.TreeDeep', WHERE WHAT IT READS IS OF BULK AT MOST 1048576: true; the input reads as it did. -/
def treeDeepUptoRow : OpenClaim := { program := "ytpblajjfgnhkdaadoor", sum := "139e9b3c40bea911c631a5b5bb3a3b6191ca9833fa659528dc312b4677c234eb", func := "forme/formelaw11.TreeDeep", spec := "treeDeep", unfollowed := true, recurses := true, named := ["forme/prop.names"], apart := false, laid := [("forme/prop.names", laid_forme_prop_names)], narrowed := true }
def TreeDeepUptoSaid : Prop := treeDeepUptoRow.holds Tryd.pinned (OpenSpec.upto treeDeepSpec)

/-- 'formelaw11.TreeCut', WHERE WHAT IT READS IS OF BULK AT MOST 1048576: true; the input reads as it did. -/
def treeCutUptoRow : OpenClaim := { program := "ytpblajjfgnhkdaadoor", sum := "139e9b3c40bea911c631a5b5bb3a3b6191ca9833fa659528dc312b4677c234eb", func := "forme/formelaw11.TreeCut", spec := "treeCut", unfollowed := true, recurses := true, named := ["forme/prop.names"], apart := false, laid := [("forme/prop.names", laid_forme_prop_names)], narrowed := true }
def TreeCutUptoSaid : Prop := treeCutUptoRow.holds Tryd.pinned (OpenSpec.upto treeCutSpec)

/-- 'formelaw15.IntrinsicText', WHERE WHAT IT READS IS OF BULK AT MOST 1048576: true; the input reads as it did. -/
def intrinsicTextUptoRow : OpenClaim := { program := "ytpblajjfgnhkdaadoor", sum := "139e9b3c40bea911c631a5b5bb3a3b6191ca9833fa659528dc312b4677c234eb", func := "forme/formelaw15.IntrinsicText", spec := "intrinsicText", unfollowed := true, recurses := true, named := ["forme/prop.names", "forme/mode.rightToLeft", "forme/mode.edges", "internal/strconv.uint64pow10", "math/bits.deBruijn32tab", "math/bits.deBruijn64tab"], apart := false, laid := [("forme/mode.edges", laid_forme_mode_edges), ("forme/mode.rightToLeft", laid_forme_mode_rightToLeft), ("forme/prop.names", laid_forme_prop_names), ("math/bits.deBruijn32tab", laid_math_bits_deBruijn32tab), ("math/bits.deBruijn64tab", laid_math_bits_deBruijn64tab), ("internal/strconv.uint64pow10", laid_internal_strconv_uint64pow10)], narrowed := true }
def IntrinsicTextUptoSaid : Prop := intrinsicTextUptoRow.holds Tryd.pinned (OpenSpec.upto intrinsicTextSpec)

/-- 'formelaw15.IntrinsicForms', WHERE WHAT IT READS IS OF BULK AT MOST 1048576: true; the input reads as it did. -/
def intrinsicFormsUptoRow : OpenClaim := { program := "ytpblajjfgnhkdaadoor", sum := "139e9b3c40bea911c631a5b5bb3a3b6191ca9833fa659528dc312b4677c234eb", func := "forme/formelaw15.IntrinsicForms", spec := "intrinsicForms", unfollowed := true, recurses := true, named := ["forme/prop.names", "forme/mode.rightToLeft", "forme/mode.edges", "internal/strconv.uint64pow10", "math/bits.deBruijn32tab", "math/bits.deBruijn64tab"], apart := false, laid := [("forme/mode.edges", laid_forme_mode_edges), ("forme/mode.rightToLeft", laid_forme_mode_rightToLeft), ("forme/prop.names", laid_forme_prop_names), ("math/bits.deBruijn32tab", laid_math_bits_deBruijn32tab), ("math/bits.deBruijn64tab", laid_math_bits_deBruijn64tab), ("internal/strconv.uint64pow10", laid_internal_strconv_uint64pow10)], narrowed := true }
def IntrinsicFormsUptoSaid : Prop := intrinsicFormsUptoRow.holds Tryd.pinned (OpenSpec.upto intrinsicFormsSpec)

/-- 'formelaw15.IntrinsicRows', WHERE WHAT IT READS IS OF BULK AT MOST 1048576: true; the input reads as it did. -/
def intrinsicRowsUptoRow : OpenClaim := { program := "ytpblajjfgnhkdaadoor", sum := "139e9b3c40bea911c631a5b5bb3a3b6191ca9833fa659528dc312b4677c234eb", func := "forme/formelaw15.IntrinsicRows", spec := "intrinsicRows", unfollowed := true, recurses := true, named := ["forme/prop.names", "forme/mode.rightToLeft", "forme/mode.edges", "internal/strconv.uint64pow10", "math/bits.deBruijn32tab", "math/bits.deBruijn64tab"], apart := false, laid := [("forme/mode.edges", laid_forme_mode_edges), ("forme/mode.rightToLeft", laid_forme_mode_rightToLeft), ("forme/prop.names", laid_forme_prop_names), ("math/bits.deBruijn32tab", laid_math_bits_deBruijn32tab), ("math/bits.deBruijn64tab", laid_math_bits_deBruijn64tab), ("internal/strconv.uint64pow10", laid_internal_strconv_uint64pow10)], narrowed := true }
def IntrinsicRowsUptoSaid : Prop := intrinsicRowsUptoRow.holds Tryd.pinned (OpenSpec.upto intrinsicRowsSpec)

/-- 'formelaw15.IntrinsicLess', WHERE WHAT IT READS IS OF BULK AT MOST 1048576: true; the input reads as it did. -/
def intrinsicLessUptoRow : OpenClaim := { program := "ytpblajjfgnhkdaadoor", sum := "139e9b3c40bea911c631a5b5bb3a3b6191ca9833fa659528dc312b4677c234eb", func := "forme/formelaw15.IntrinsicLess", spec := "intrinsicLess", unfollowed := true, recurses := true, named := ["forme/prop.names", "forme/mode.rightToLeft", "forme/mode.edges", "internal/strconv.uint64pow10", "math/bits.deBruijn32tab", "math/bits.deBruijn64tab"], apart := false, laid := [("forme/mode.edges", laid_forme_mode_edges), ("forme/mode.rightToLeft", laid_forme_mode_rightToLeft), ("forme/prop.names", laid_forme_prop_names), ("math/bits.deBruijn32tab", laid_math_bits_deBruijn32tab), ("math/bits.deBruijn64tab", laid_math_bits_deBruijn64tab), ("internal/strconv.uint64pow10", laid_internal_strconv_uint64pow10)], narrowed := true }
def IntrinsicLessUptoSaid : Prop := intrinsicLessUptoRow.holds Tryd.pinned (OpenSpec.upto intrinsicLessSpec)

end Rows
end Go.Proofs.YtpblajjfgnhkdaaDoor
