/-
  NARROWER THAN 'FOR EVERY INPUT', by the rows' own cells (each row's printed sentence says how): Lengths: laid · LengthBack: laid · LengthForms: laid · LengthAll: laid · Frags: laid · FragBack: laid · FragForms: laid · FragRow: laid.
  DERIVED. THE GIVEN ROWS OF THIS SEAT. 8 by the template 'for every input the law returns true; each argument reads behind the call as it read before'; 0 by the template 'total and deterministic' (their statements: YtpeoadnnemlphaaDoorTotals.lean).
  GIVEN WITH THE SEED: the statements are not yours to turn. If you find one false, say at which input.
  Laid BY PROGRAM, IN A SANDBOX (cutbox-rows.mjs): the forced cells as the released guide's own fill.sh prints them over the translation faff97cf61cd19fb… (all of the seat's roots in one cut). By AI agents, Wed Nov 11 2026. No macro, syntax, notation, axiom, sorry.
-/
import Derived.Test.YtpeoadnnemlphaaDoorChecked
import GoSem.Claim
import GoSem.ClaimJoined
import GoSem.ClaimMapViews
import Derived.JoinedTies
import Derived.KernelRfl
namespace Go.Proofs.YtpeoadnnemlphaaDoor
/- THE CELL 'sum', in the pinned program and in every row, IS THE sha256 OF THE DUMP (.gsa) THAT YtpeoadnnemlphaaDoorProg.lean LOADS. Nothing in Lean hashes anything: it is a label: what it is worth is what the hold of that sum in a sandbox is worth. -/
noncomputable def Tryd.pinned : Pinned := { name := "ytpeoadnnemlphaadoor", sum := "faff97cf61cd19fba448c843d6a41c10086c26cba31bf279f369d13a56be8938", checked := Tryd.checked }
namespace Rows
def none {H : Type} : Left H := { results := [], args := [] }

/- WHAT THE LISTED PACKAGE-LEVEL VARIABLES READ AS WHEN THE CALL BEGINS. Each datum BY PROGRAM (the guide's laid-datum.mjs) off the statement by which the dump's own 'gosem.cut.vars' lays the variable. In a bare row this is a premise. The card (YtpeoadnnemlphaaDoorCards.lean) ties it to the program's text. -/
def laid_math_bits_deBruijn32tab {H : Type} : DataW H := .agg [.lit (.int .u8 0), .lit (.int .u8 1), .lit (.int .u8 28), .lit (.int .u8 2), .lit (.int .u8 29), .lit (.int .u8 14), .lit (.int .u8 24), .lit (.int .u8 3), .lit (.int .u8 30), .lit (.int .u8 22), .lit (.int .u8 20), .lit (.int .u8 15), .lit (.int .u8 25), .lit (.int .u8 17), .lit (.int .u8 4), .lit (.int .u8 8), .lit (.int .u8 31), .lit (.int .u8 27), .lit (.int .u8 13), .lit (.int .u8 23), .lit (.int .u8 21), .lit (.int .u8 19), .lit (.int .u8 16), .lit (.int .u8 7), .lit (.int .u8 26), .lit (.int .u8 12), .lit (.int .u8 18), .lit (.int .u8 6), .lit (.int .u8 11), .lit (.int .u8 5), .lit (.int .u8 10), .lit (.int .u8 9)]
def laid_math_bits_deBruijn64tab {H : Type} : DataW H := .agg [.lit (.int .u8 0), .lit (.int .u8 1), .lit (.int .u8 56), .lit (.int .u8 2), .lit (.int .u8 57), .lit (.int .u8 49), .lit (.int .u8 28), .lit (.int .u8 3), .lit (.int .u8 61), .lit (.int .u8 58), .lit (.int .u8 42), .lit (.int .u8 50), .lit (.int .u8 38), .lit (.int .u8 29), .lit (.int .u8 17), .lit (.int .u8 4), .lit (.int .u8 62), .lit (.int .u8 47), .lit (.int .u8 59), .lit (.int .u8 36), .lit (.int .u8 45), .lit (.int .u8 43), .lit (.int .u8 51), .lit (.int .u8 22), .lit (.int .u8 53), .lit (.int .u8 39), .lit (.int .u8 33), .lit (.int .u8 30), .lit (.int .u8 24), .lit (.int .u8 18), .lit (.int .u8 12), .lit (.int .u8 5), .lit (.int .u8 63), .lit (.int .u8 55), .lit (.int .u8 48), .lit (.int .u8 27), .lit (.int .u8 60), .lit (.int .u8 41), .lit (.int .u8 37), .lit (.int .u8 16), .lit (.int .u8 46), .lit (.int .u8 35), .lit (.int .u8 44), .lit (.int .u8 21), .lit (.int .u8 52), .lit (.int .u8 32), .lit (.int .u8 23), .lit (.int .u8 11), .lit (.int .u8 54), .lit (.int .u8 26), .lit (.int .u8 40), .lit (.int .u8 15), .lit (.int .u8 34), .lit (.int .u8 20), .lit (.int .u8 31), .lit (.int .u8 10), .lit (.int .u8 25), .lit (.int .u8 14), .lit (.int .u8 19), .lit (.int .u8 9), .lit (.int .u8 13), .lit (.int .u8 8), .lit (.int .u8 7), .lit (.int .u8 6)]
def laid_internal_strconv_uint64pow10 {H : Type} : DataW H := .agg [.lit (.int .u64 1), .lit (.int .u64 10), .lit (.int .u64 100), .lit (.int .u64 1000), .lit (.int .u64 10000), .lit (.int .u64 100000), .lit (.int .u64 1000000), .lit (.int .u64 10000000), .lit (.int .u64 100000000), .lit (.int .u64 1000000000), .lit (.int .u64 10000000000), .lit (.int .u64 100000000000), .lit (.int .u64 1000000000000), .lit (.int .u64 10000000000000), .lit (.int .u64 100000000000000), .lit (.int .u64 1000000000000000), .lit (.int .u64 10000000000000000), .lit (.int .u64 100000000000000000), .lit (.int .u64 1000000000000000000), .lit (.int .u64 10000000000000000000)]
def laid_forme_mode_edges {H : Type} : DataW H := .agg [.agg [.lit (.int .i64 3), .lit (.int .i64 1), .lit (.int .i64 0), .lit (.int .i64 2)], .agg [.lit (.int .i64 0), .lit (.int .i64 2), .lit (.int .i64 1), .lit (.int .i64 3)], .agg [.lit (.int .i64 0), .lit (.int .i64 2), .lit (.int .i64 3), .lit (.int .i64 1)]]
def laid_forme_mode_rightToLeft {H : Type} : DataW H := .agg [.lit (.int .i64 1), .lit (.int .i64 0), .lit (.int .i64 2), .lit (.int .i64 3)]

/-- 'formelaw8.Lengths': WHATEVER THE INPUT: true; the input reads as it did. -/
def lengthsSpec : ChangeSpec := { name := "lengths", fn := fun _ => fun
  | [d1, d2, d3, d4] => { results := [.lit (.bool true)], args := [d1, d2, d3, d4] }
  | _ => none }
def lengthsRow : OpenClaim := { program := "ytpeoadnnemlphaadoor", sum := "faff97cf61cd19fba448c843d6a41c10086c26cba31bf279f369d13a56be8938", func := "forme/formelaw8.Lengths", spec := "lengths", named := ["internal/strconv.uint64pow10", "math/bits.deBruijn32tab", "math/bits.deBruijn64tab"], apart := false, laid := [("math/bits.deBruijn32tab", laid_math_bits_deBruijn32tab), ("math/bits.deBruijn64tab", laid_math_bits_deBruijn64tab), ("internal/strconv.uint64pow10", laid_internal_strconv_uint64pow10)] }
def LengthsSaid : Prop := lengthsRow.holds Tryd.pinned (OpenSpec.ofChange lengthsSpec)

/-- ITS FALSE NEIGHBOUR: 'it returns false'. Refute it at one input. -/
def lengthsWrong : ChangeSpec := { name := "lengths", fn := fun _ => fun
  | [d1, d2, d3, d4] => { results := [.lit (.bool false)], args := [d1, d2, d3, d4] }
  | _ => none }
def LengthsWrongFalsely : Prop := lengthsRow.holds Tryd.pinned (OpenSpec.ofChange lengthsWrong)

/-- 'formelaw8.LengthBack': WHATEVER THE INPUT: true; the input reads as it did. -/
def lengthBackSpec : ChangeSpec := { name := "lengthBack", fn := fun _ => fun
  | [d1, d2] => { results := [.lit (.bool true)], args := [d1, d2] }
  | _ => none }
def lengthBackRow : OpenClaim := { program := "ytpeoadnnemlphaadoor", sum := "faff97cf61cd19fba448c843d6a41c10086c26cba31bf279f369d13a56be8938", func := "forme/formelaw8.LengthBack", spec := "lengthBack", named := ["internal/strconv.uint64pow10", "math/bits.deBruijn32tab", "math/bits.deBruijn64tab"], apart := false, laid := [("math/bits.deBruijn32tab", laid_math_bits_deBruijn32tab), ("math/bits.deBruijn64tab", laid_math_bits_deBruijn64tab), ("internal/strconv.uint64pow10", laid_internal_strconv_uint64pow10)] }
def LengthBackSaid : Prop := lengthBackRow.holds Tryd.pinned (OpenSpec.ofChange lengthBackSpec)

/-- ITS FALSE NEIGHBOUR: 'it returns false'. Refute it at one input. -/
def lengthBackWrong : ChangeSpec := { name := "lengthBack", fn := fun _ => fun
  | [d1, d2] => { results := [.lit (.bool false)], args := [d1, d2] }
  | _ => none }
def LengthBackWrongFalsely : Prop := lengthBackRow.holds Tryd.pinned (OpenSpec.ofChange lengthBackWrong)

/-- 'formelaw8.LengthForms': WHATEVER THE INPUT: true; the input reads as it did. -/
def lengthFormsSpec : ChangeSpec := { name := "lengthForms", fn := fun _ => fun
  | [d1, d2] => { results := [.lit (.bool true)], args := [d1, d2] }
  | _ => none }
def lengthFormsRow : OpenClaim := { program := "ytpeoadnnemlphaadoor", sum := "faff97cf61cd19fba448c843d6a41c10086c26cba31bf279f369d13a56be8938", func := "forme/formelaw8.LengthForms", spec := "lengthForms", named := ["internal/strconv.uint64pow10", "math/bits.deBruijn32tab", "math/bits.deBruijn64tab"], apart := false, laid := [("math/bits.deBruijn32tab", laid_math_bits_deBruijn32tab), ("math/bits.deBruijn64tab", laid_math_bits_deBruijn64tab), ("internal/strconv.uint64pow10", laid_internal_strconv_uint64pow10)] }
def LengthFormsSaid : Prop := lengthFormsRow.holds Tryd.pinned (OpenSpec.ofChange lengthFormsSpec)

/-- ITS FALSE NEIGHBOUR: 'it returns false'. Refute it at one input. -/
def lengthFormsWrong : ChangeSpec := { name := "lengthForms", fn := fun _ => fun
  | [d1, d2] => { results := [.lit (.bool false)], args := [d1, d2] }
  | _ => none }
def LengthFormsWrongFalsely : Prop := lengthFormsRow.holds Tryd.pinned (OpenSpec.ofChange lengthFormsWrong)

/-- 'formelaw8.LengthAll': WHATEVER THE INPUT: true; the input reads as it did. -/
def lengthAllSpec : ChangeSpec := { name := "lengthAll", fn := fun _ => fun
  | [d] => { results := [.lit (.bool true)], args := [d] }
  | _ => none }
def lengthAllRow : OpenClaim := { program := "ytpeoadnnemlphaadoor", sum := "faff97cf61cd19fba448c843d6a41c10086c26cba31bf279f369d13a56be8938", func := "forme/formelaw8.LengthAll", spec := "lengthAll", named := ["internal/strconv.uint64pow10", "math/bits.deBruijn32tab", "math/bits.deBruijn64tab"], apart := false, laid := [("math/bits.deBruijn32tab", laid_math_bits_deBruijn32tab), ("math/bits.deBruijn64tab", laid_math_bits_deBruijn64tab), ("internal/strconv.uint64pow10", laid_internal_strconv_uint64pow10)] }
def LengthAllSaid : Prop := lengthAllRow.holds Tryd.pinned (OpenSpec.ofChange lengthAllSpec)

/-- ITS FALSE NEIGHBOUR: 'it returns false'. Refute it at one input. -/
def lengthAllWrong : ChangeSpec := { name := "lengthAll", fn := fun _ => fun
  | [d] => { results := [.lit (.bool false)], args := [d] }
  | _ => none }
def LengthAllWrongFalsely : Prop := lengthAllRow.holds Tryd.pinned (OpenSpec.ofChange lengthAllWrong)

/-- 'formelaw23.Frags': WHATEVER THE INPUT: true; the input reads as it did. -/
def fragsSpec : ChangeSpec := { name := "frags", fn := fun _ => fun
  | [d1, d2, d3] => { results := [.lit (.bool true)], args := [d1, d2, d3] }
  | _ => none }
def fragsRow : OpenClaim := { program := "ytpeoadnnemlphaadoor", sum := "faff97cf61cd19fba448c843d6a41c10086c26cba31bf279f369d13a56be8938", func := "forme/formelaw23.Frags", spec := "frags", named := ["forme/mode.rightToLeft", "forme/mode.edges"], apart := false, laid := [("forme/mode.edges", laid_forme_mode_edges), ("forme/mode.rightToLeft", laid_forme_mode_rightToLeft)] }
def FragsSaid : Prop := fragsRow.holds Tryd.pinned (OpenSpec.ofChange fragsSpec)

/-- ITS FALSE NEIGHBOUR: 'it returns false'. Refute it at one input. -/
def fragsWrong : ChangeSpec := { name := "frags", fn := fun _ => fun
  | [d1, d2, d3] => { results := [.lit (.bool false)], args := [d1, d2, d3] }
  | _ => none }
def FragsWrongFalsely : Prop := fragsRow.holds Tryd.pinned (OpenSpec.ofChange fragsWrong)

/-- 'formelaw23.FragBack': WHATEVER THE INPUT: true; the input reads as it did. -/
def fragBackSpec : ChangeSpec := { name := "fragBack", fn := fun _ => fun
  | [d1, d2, d3, d4] => { results := [.lit (.bool true)], args := [d1, d2, d3, d4] }
  | _ => none }
def fragBackRow : OpenClaim := { program := "ytpeoadnnemlphaadoor", sum := "faff97cf61cd19fba448c843d6a41c10086c26cba31bf279f369d13a56be8938", func := "forme/formelaw23.FragBack", spec := "fragBack", named := ["forme/mode.rightToLeft", "forme/mode.edges"], apart := false, laid := [("forme/mode.edges", laid_forme_mode_edges), ("forme/mode.rightToLeft", laid_forme_mode_rightToLeft)] }
def FragBackSaid : Prop := fragBackRow.holds Tryd.pinned (OpenSpec.ofChange fragBackSpec)

/-- ITS FALSE NEIGHBOUR: 'it returns false'. Refute it at one input. -/
def fragBackWrong : ChangeSpec := { name := "fragBack", fn := fun _ => fun
  | [d1, d2, d3, d4] => { results := [.lit (.bool false)], args := [d1, d2, d3, d4] }
  | _ => none }
def FragBackWrongFalsely : Prop := fragBackRow.holds Tryd.pinned (OpenSpec.ofChange fragBackWrong)

/-- 'formelaw23.FragForms': WHATEVER THE INPUT: true; the input reads as it did. -/
def fragFormsSpec : ChangeSpec := { name := "fragForms", fn := fun _ => fun
  | [d1, d2] => { results := [.lit (.bool true)], args := [d1, d2] }
  | _ => none }
def fragFormsRow : OpenClaim := { program := "ytpeoadnnemlphaadoor", sum := "faff97cf61cd19fba448c843d6a41c10086c26cba31bf279f369d13a56be8938", func := "forme/formelaw23.FragForms", spec := "fragForms", named := ["forme/mode.rightToLeft", "forme/mode.edges"], apart := false, laid := [("forme/mode.edges", laid_forme_mode_edges), ("forme/mode.rightToLeft", laid_forme_mode_rightToLeft)] }
def FragFormsSaid : Prop := fragFormsRow.holds Tryd.pinned (OpenSpec.ofChange fragFormsSpec)

/-- ITS FALSE NEIGHBOUR: 'it returns false'. Refute it at one input. -/
def fragFormsWrong : ChangeSpec := { name := "fragForms", fn := fun _ => fun
  | [d1, d2] => { results := [.lit (.bool false)], args := [d1, d2] }
  | _ => none }
def FragFormsWrongFalsely : Prop := fragFormsRow.holds Tryd.pinned (OpenSpec.ofChange fragFormsWrong)

/-- 'formelaw23.FragRow': WHATEVER THE INPUT: true; the input reads as it did. -/
def fragRowSpec : ChangeSpec := { name := "fragRow", fn := fun _ => fun
  | [d1, d2, d3, d4] => { results := [.lit (.bool true)], args := [d1, d2, d3, d4] }
  | _ => none }
def fragRowRow : OpenClaim := { program := "ytpeoadnnemlphaadoor", sum := "faff97cf61cd19fba448c843d6a41c10086c26cba31bf279f369d13a56be8938", func := "forme/formelaw23.FragRow", spec := "fragRow", named := ["forme/mode.rightToLeft", "forme/mode.edges"], apart := false, laid := [("forme/mode.edges", laid_forme_mode_edges), ("forme/mode.rightToLeft", laid_forme_mode_rightToLeft)] }
def FragRowSaid : Prop := fragRowRow.holds Tryd.pinned (OpenSpec.ofChange fragRowSpec)

/-- ITS FALSE NEIGHBOUR: 'it returns false'. Refute it at one input. -/
def fragRowWrong : ChangeSpec := { name := "fragRow", fn := fun _ => fun
  | [d1, d2, d3, d4] => { results := [.lit (.bool false)], args := [d1, d2, d3, d4] }
  | _ => none }
def FragRowWrongFalsely : Prop := fragRowRow.holds Tryd.pinned (OpenSpec.ofChange fragRowWrong)

/- THE SECOND FORM. 'bulk': how many values and letters a reading holds, each counted each time it is reached (what is shared counts as often as it is met; a slice's spare places count too). A statement '..UptoSaid' is the law's where the arguments, and the package variables that the reading takes, are together of bulk at most 1048576: NARROWER than '..Said'. Prove '..Said' where nothing that the law and all that it calls make is longer than what came in: it says more and counts as full. Else prove '..UptoSaid'. A law counts once. -/
mutual
def uptoBulk {H : Type} : DataW H → Nat
  | .lit (.string bytes) => bytes.length + 1
  | .lit _ => 1
  | .nil => 1
  | .ptr d => uptoBulk d + 1
  | .slice elems spare => uptoBulkAll elems + uptoBulkAll spare + 1
  | .agg parts => uptoBulkAll parts + 1
  | .iface _ d => uptoBulk d + 1
  | .map entries => uptoBulkEntries entries + 1
  | .held _ => 1
def uptoBulkAll {H : Type} : List (DataW H) → Nat
  | [] => 0
  | d :: r => uptoBulk d + uptoBulkAll r
def uptoBulkEntries {H : Type} : List (Lit × DataW H) → Nat
  | [] => 0
  | x :: r => uptoBulkEntry x + uptoBulkEntries r
def uptoBulkEntry {H : Type} : Lit × DataW H → Nat
  | (.string bytes, d) => bytes.length + uptoBulk d + 1
  | (_, d) => uptoBulk d + 1
 end
def uptoSmall : (H : Type) → List (DataW H) → Bool := fun _ ds => decide (uptoBulkAll ds ≤ 1048576)
def OpenSpec.upto (s : _root_.Go.ChangeSpec) : _root_.Go.OpenSpec := { _root_.Go.OpenSpec.ofChange s with cond := some uptoSmall }

/-- 'formelaw8.Lengths', WHERE WHAT IT READS IS OF BULK AT MOST 1048576: true; the input reads as it did. -/
def lengthsUptoRow : OpenClaim := { program := "ytpeoadnnemlphaadoor", sum := "faff97cf61cd19fba448c843d6a41c10086c26cba31bf279f369d13a56be8938", func := "forme/formelaw8.Lengths", spec := "lengths", named := ["internal/strconv.uint64pow10", "math/bits.deBruijn32tab", "math/bits.deBruijn64tab"], apart := false, laid := [("math/bits.deBruijn32tab", laid_math_bits_deBruijn32tab), ("math/bits.deBruijn64tab", laid_math_bits_deBruijn64tab), ("internal/strconv.uint64pow10", laid_internal_strconv_uint64pow10)], narrowed := true }
def LengthsUptoSaid : Prop := lengthsUptoRow.holds Tryd.pinned (OpenSpec.upto lengthsSpec)

/-- 'formelaw8.LengthBack', WHERE WHAT IT READS IS OF BULK AT MOST 1048576: true; the input reads as it did. -/
def lengthBackUptoRow : OpenClaim := { program := "ytpeoadnnemlphaadoor", sum := "faff97cf61cd19fba448c843d6a41c10086c26cba31bf279f369d13a56be8938", func := "forme/formelaw8.LengthBack", spec := "lengthBack", named := ["internal/strconv.uint64pow10", "math/bits.deBruijn32tab", "math/bits.deBruijn64tab"], apart := false, laid := [("math/bits.deBruijn32tab", laid_math_bits_deBruijn32tab), ("math/bits.deBruijn64tab", laid_math_bits_deBruijn64tab), ("internal/strconv.uint64pow10", laid_internal_strconv_uint64pow10)], narrowed := true }
def LengthBackUptoSaid : Prop := lengthBackUptoRow.holds Tryd.pinned (OpenSpec.upto lengthBackSpec)

/-- 'formelaw8.LengthForms', WHERE WHAT IT READS IS OF BULK AT MOST 1048576: true; the input reads as it did. -/
def lengthFormsUptoRow : OpenClaim := { program := "ytpeoadnnemlphaadoor", sum := "faff97cf61cd19fba448c843d6a41c10086c26cba31bf279f369d13a56be8938", func := "forme/formelaw8.LengthForms", spec := "lengthForms", named := ["internal/strconv.uint64pow10", "math/bits.deBruijn32tab", "math/bits.deBruijn64tab"], apart := false, laid := [("math/bits.deBruijn32tab", laid_math_bits_deBruijn32tab), ("math/bits.deBruijn64tab", laid_math_bits_deBruijn64tab), ("internal/strconv.uint64pow10", laid_internal_strconv_uint64pow10)], narrowed := true }
def LengthFormsUptoSaid : Prop := lengthFormsUptoRow.holds Tryd.pinned (OpenSpec.upto lengthFormsSpec)

/-- 'formelaw8.LengthAll', WHERE WHAT IT READS IS OF BULK AT MOST 1048576: true; the input reads as it did. -/
def lengthAllUptoRow : OpenClaim := { program := "ytpeoadnnemlphaadoor", sum := "faff97cf61cd19fba448c843d6a41c10086c26cba31bf279f369d13a56be8938", func := "forme/formelaw8.LengthAll", spec := "lengthAll", named := ["internal/strconv.uint64pow10", "math/bits.deBruijn32tab", "math/bits.deBruijn64tab"], apart := false, laid := [("math/bits.deBruijn32tab", laid_math_bits_deBruijn32tab), ("math/bits.deBruijn64tab", laid_math_bits_deBruijn64tab), ("internal/strconv.uint64pow10", laid_internal_strconv_uint64pow10)], narrowed := true }
def LengthAllUptoSaid : Prop := lengthAllUptoRow.holds Tryd.pinned (OpenSpec.upto lengthAllSpec)

/-- 'formelaw23.Frags', WHERE WHAT IT READS IS OF BULK AT MOST 1048576: true; the input reads as it did. -/
def fragsUptoRow : OpenClaim := { program := "ytpeoadnnemlphaadoor", sum := "faff97cf61cd19fba448c843d6a41c10086c26cba31bf279f369d13a56be8938", func := "forme/formelaw23.Frags", spec := "frags", named := ["forme/mode.rightToLeft", "forme/mode.edges"], apart := false, laid := [("forme/mode.edges", laid_forme_mode_edges), ("forme/mode.rightToLeft", laid_forme_mode_rightToLeft)], narrowed := true }
def FragsUptoSaid : Prop := fragsUptoRow.holds Tryd.pinned (OpenSpec.upto fragsSpec)

/-- 'formelaw23.FragBack', WHERE WHAT IT READS IS OF BULK AT MOST 1048576: true; the input reads as it did. -/
def fragBackUptoRow : OpenClaim := { program := "ytpeoadnnemlphaadoor", sum := "faff97cf61cd19fba448c843d6a41c10086c26cba31bf279f369d13a56be8938", func := "forme/formelaw23.FragBack", spec := "fragBack", named := ["forme/mode.rightToLeft", "forme/mode.edges"], apart := false, laid := [("forme/mode.edges", laid_forme_mode_edges), ("forme/mode.rightToLeft", laid_forme_mode_rightToLeft)], narrowed := true }
def FragBackUptoSaid : Prop := fragBackUptoRow.holds Tryd.pinned (OpenSpec.upto fragBackSpec)

/-- 'formelaw23.FragForms', WHERE WHAT IT READS IS OF BULK AT MOST 1048576: true; the input reads as it did. -/
def fragFormsUptoRow : OpenClaim := { program := "ytpeoadnnemlphaadoor", sum := "faff97cf61cd19fba448c843d6a41c10086c26cba31bf279f369d13a56be8938", func := "forme/formelaw23.FragForms", spec := "fragForms", named := ["forme/mode.rightToLeft", "forme/mode.edges"], apart := false, laid := [("forme/mode.edges", laid_forme_mode_edges), ("forme/mode.rightToLeft", laid_forme_mode_rightToLeft)], narrowed := true }
def FragFormsUptoSaid : Prop := fragFormsUptoRow.holds Tryd.pinned (OpenSpec.upto fragFormsSpec)

/-- 'formelaw23.FragRow', WHERE WHAT IT READS IS OF BULK AT MOST 1048576: true; the input reads as it did. -/
def fragRowUptoRow : OpenClaim := { program := "ytpeoadnnemlphaadoor", sum := "faff97cf61cd19fba448c843d6a41c10086c26cba31bf279f369d13a56be8938", func := "forme/formelaw23.FragRow", spec := "fragRow", named := ["forme/mode.rightToLeft", "forme/mode.edges"], apart := false, laid := [("forme/mode.edges", laid_forme_mode_edges), ("forme/mode.rightToLeft", laid_forme_mode_rightToLeft)], narrowed := true }
def FragRowUptoSaid : Prop := fragRowUptoRow.holds Tryd.pinned (OpenSpec.upto fragRowSpec)

end Rows
end Go.Proofs.YtpeoadnnemlphaaDoor
