/-
  NARROWER THAN 'FOR EVERY INPUT', by the rows' own cells (each row's printed sentence says how): LengthBack: laid · LengthAll: laid · Cascades: laid · CascadeLast: laid · CascadeForms: laid · CascadeRow: laid · CascadePassed: laid · CascadeOrder: laid.
  DERIVED. THE GIVEN ROWS OF THIS SEAT. 8 by the template 'for every input the law returns true; each argument reads behind the call as it read before'; 0 by the template 'total and deterministic' (their statements: YtnbagilcbngdcaaDoorTotals.lean).
  GIVEN WITH THE SEED: the statements are not yours to turn. If you find one false, say at which input.
  Laid BY PROGRAM, IN A SANDBOX (cutbox-rows.mjs): the forced cells as the released guide's own fill.sh prints them over the translation 9ade22ded9ddfac5… (all of the seat's roots in one cut). By AI agents, Wed Nov 11 2026. No macro, syntax, notation, axiom, sorry.
-/
import Derived.Test.YtnbagilcbngdcaaDoorChecked
import GoSem.Claim
import GoSem.ClaimJoined
import GoSem.ClaimMapViews
import Derived.JoinedTies
import Derived.KernelRfl
namespace Go.Proofs.YtnbagilcbngdcaaDoor
/- THE CELL 'sum', in the pinned program and in every row, IS THE sha256 OF THE DUMP (.gsa) THAT YtnbagilcbngdcaaDoorProg.lean LOADS. Nothing in Lean hashes anything: it is a label: what it is worth is what the hold of that sum in a sandbox is worth. -/
noncomputable def Tryd.pinned : Pinned := { name := "ytnbagilcbngdcaadoor", sum := "9ade22ded9ddfac5cab21ed12357c30a8b6d3370f26f502b65031027c9bf00ea", checked := Tryd.checked }
namespace Rows
def none {H : Type} : Left H := { results := [], args := [] }

/- WHAT THE LISTED PACKAGE-LEVEL VARIABLES READ AS WHEN THE CALL BEGINS. Each datum BY PROGRAM (the guide's laid-datum.mjs) off the statement by which the dump's own 'gosem.cut.vars' lays the variable. In a bare row this is a premise. The card (YtnbagilcbngdcaaDoorCards.lean) ties it to the program's text. -/
def laid_math_bits_deBruijn32tab {H : Type} : DataW H := .agg [.lit (.int .u8 0), .lit (.int .u8 1), .lit (.int .u8 28), .lit (.int .u8 2), .lit (.int .u8 29), .lit (.int .u8 14), .lit (.int .u8 24), .lit (.int .u8 3), .lit (.int .u8 30), .lit (.int .u8 22), .lit (.int .u8 20), .lit (.int .u8 15), .lit (.int .u8 25), .lit (.int .u8 17), .lit (.int .u8 4), .lit (.int .u8 8), .lit (.int .u8 31), .lit (.int .u8 27), .lit (.int .u8 13), .lit (.int .u8 23), .lit (.int .u8 21), .lit (.int .u8 19), .lit (.int .u8 16), .lit (.int .u8 7), .lit (.int .u8 26), .lit (.int .u8 12), .lit (.int .u8 18), .lit (.int .u8 6), .lit (.int .u8 11), .lit (.int .u8 5), .lit (.int .u8 10), .lit (.int .u8 9)]
def laid_math_bits_deBruijn64tab {H : Type} : DataW H := .agg [.lit (.int .u8 0), .lit (.int .u8 1), .lit (.int .u8 56), .lit (.int .u8 2), .lit (.int .u8 57), .lit (.int .u8 49), .lit (.int .u8 28), .lit (.int .u8 3), .lit (.int .u8 61), .lit (.int .u8 58), .lit (.int .u8 42), .lit (.int .u8 50), .lit (.int .u8 38), .lit (.int .u8 29), .lit (.int .u8 17), .lit (.int .u8 4), .lit (.int .u8 62), .lit (.int .u8 47), .lit (.int .u8 59), .lit (.int .u8 36), .lit (.int .u8 45), .lit (.int .u8 43), .lit (.int .u8 51), .lit (.int .u8 22), .lit (.int .u8 53), .lit (.int .u8 39), .lit (.int .u8 33), .lit (.int .u8 30), .lit (.int .u8 24), .lit (.int .u8 18), .lit (.int .u8 12), .lit (.int .u8 5), .lit (.int .u8 63), .lit (.int .u8 55), .lit (.int .u8 48), .lit (.int .u8 27), .lit (.int .u8 60), .lit (.int .u8 41), .lit (.int .u8 37), .lit (.int .u8 16), .lit (.int .u8 46), .lit (.int .u8 35), .lit (.int .u8 44), .lit (.int .u8 21), .lit (.int .u8 52), .lit (.int .u8 32), .lit (.int .u8 23), .lit (.int .u8 11), .lit (.int .u8 54), .lit (.int .u8 26), .lit (.int .u8 40), .lit (.int .u8 15), .lit (.int .u8 34), .lit (.int .u8 20), .lit (.int .u8 31), .lit (.int .u8 10), .lit (.int .u8 25), .lit (.int .u8 14), .lit (.int .u8 19), .lit (.int .u8 9), .lit (.int .u8 13), .lit (.int .u8 8), .lit (.int .u8 7), .lit (.int .u8 6)]
def laid_internal_strconv_uint64pow10 {H : Type} : DataW H := .agg [.lit (.int .u64 1), .lit (.int .u64 10), .lit (.int .u64 100), .lit (.int .u64 1000), .lit (.int .u64 10000), .lit (.int .u64 100000), .lit (.int .u64 1000000), .lit (.int .u64 10000000), .lit (.int .u64 100000000), .lit (.int .u64 1000000000), .lit (.int .u64 10000000000), .lit (.int .u64 100000000000), .lit (.int .u64 1000000000000), .lit (.int .u64 10000000000000), .lit (.int .u64 100000000000000), .lit (.int .u64 1000000000000000), .lit (.int .u64 10000000000000000), .lit (.int .u64 100000000000000000), .lit (.int .u64 1000000000000000000), .lit (.int .u64 10000000000000000000)]
def laid_forme_mode_edges {H : Type} : DataW H := .agg [.agg [.lit (.int .i64 3), .lit (.int .i64 1), .lit (.int .i64 0), .lit (.int .i64 2)], .agg [.lit (.int .i64 0), .lit (.int .i64 2), .lit (.int .i64 1), .lit (.int .i64 3)], .agg [.lit (.int .i64 0), .lit (.int .i64 2), .lit (.int .i64 3), .lit (.int .i64 1)]]
def laid_forme_mode_rightToLeft {H : Type} : DataW H := .agg [.lit (.int .i64 1), .lit (.int .i64 0), .lit (.int .i64 2), .lit (.int .i64 3)]
def laid_forme_prop_names {H : Type} : DataW H := .agg [.lit (.string [105, 110, 108, 105, 110, 101, 45, 115, 105, 122, 101]), .lit (.string [98, 108, 111, 99, 107, 45, 115, 105, 122, 101]), .lit (.string [119, 105, 100, 116, 104]), .lit (.string [104, 101, 105, 103, 104, 116]), .lit (.string [109, 105, 110, 45, 105, 110, 108, 105, 110, 101, 45, 115, 105, 122, 101]), .lit (.string [109, 97, 120, 45, 105, 110, 108, 105, 110, 101, 45, 115, 105, 122, 101]), .lit (.string [109, 97, 114, 103, 105, 110, 45, 105, 110, 108, 105, 110, 101, 45, 115, 116, 97, 114, 116]), .lit (.string [109, 97, 114, 103, 105, 110, 45, 105, 110, 108, 105, 110, 101, 45, 101, 110, 100]), .lit (.string [109, 97, 114, 103, 105, 110, 45, 98, 108, 111, 99, 107, 45, 115, 116, 97, 114, 116]), .lit (.string [109, 97, 114, 103, 105, 110, 45, 98, 108, 111, 99, 107, 45, 101, 110, 100]), .lit (.string [109, 97, 114, 103, 105, 110, 45, 116, 111, 112]), .lit (.string [109, 97, 114, 103, 105, 110, 45, 114, 105, 103, 104, 116]), .lit (.string [109, 97, 114, 103, 105, 110, 45, 98, 111, 116, 116, 111, 109]), .lit (.string [109, 97, 114, 103, 105, 110, 45, 108, 101, 102, 116]), .lit (.string [112, 97, 100, 100, 105, 110, 103, 45, 105, 110, 108, 105, 110, 101, 45, 115, 116, 97, 114, 116]), .lit (.string [112, 97, 100, 100, 105, 110, 103, 45, 105, 110, 108, 105, 110, 101, 45, 101, 110, 100]), .lit (.string [112, 97, 100, 100, 105, 110, 103, 45, 98, 108, 111, 99, 107, 45, 115, 116, 97, 114, 116]), .lit (.string [112, 97, 100, 100, 105, 110, 103, 45, 98, 108, 111, 99, 107, 45, 101, 110, 100]), .lit (.string [112, 97, 100, 100, 105, 110, 103, 45, 116, 111, 112]), .lit (.string [112, 97, 100, 100, 105, 110, 103, 45, 114, 105, 103, 104, 116]), .lit (.string [112, 97, 100, 100, 105, 110, 103, 45, 98, 111, 116, 116, 111, 109]), .lit (.string [112, 97, 100, 100, 105, 110, 103, 45, 108, 101, 102, 116]), .lit (.string [102, 108, 101, 120, 45, 98, 97, 115, 105, 115]), .lit (.string [102, 108, 101, 120, 45, 103, 114, 111, 119]), .lit (.string [102, 108, 101, 120, 45, 115, 104, 114, 105, 110, 107]), .lit (.string [116, 101, 120, 116, 45, 97, 108, 105, 103, 110]), .lit (.string [97, 108, 105, 103, 110, 45, 105, 116, 101, 109, 115]), .lit (.string [106, 117, 115, 116, 105, 102, 121, 45, 99, 111, 110, 116, 101, 110, 116]), .lit (.string [102, 108, 101, 120, 45, 119, 114, 97, 112])]

/-- 'formelaw8.LengthBack': WHATEVER THE INPUT: true; the input reads as it did. -/
def lengthBackSpec : ChangeSpec := { name := "lengthBack", fn := fun _ => fun
  | [d1, d2] => { results := [.lit (.bool true)], args := [d1, d2] }
  | _ => none }
def lengthBackRow : OpenClaim := { program := "ytnbagilcbngdcaadoor", sum := "9ade22ded9ddfac5cab21ed12357c30a8b6d3370f26f502b65031027c9bf00ea", func := "forme/formelaw8.LengthBack", spec := "lengthBack", named := ["internal/strconv.uint64pow10", "math/bits.deBruijn32tab", "math/bits.deBruijn64tab"], apart := false, laid := [("math/bits.deBruijn32tab", laid_math_bits_deBruijn32tab), ("math/bits.deBruijn64tab", laid_math_bits_deBruijn64tab), ("internal/strconv.uint64pow10", laid_internal_strconv_uint64pow10)] }
def LengthBackSaid : Prop := lengthBackRow.holds Tryd.pinned (OpenSpec.ofChange lengthBackSpec)

/-- ITS FALSE NEIGHBOUR: 'it returns false'. Refute it at one input. -/
def lengthBackWrong : ChangeSpec := { name := "lengthBack", fn := fun _ => fun
  | [d1, d2] => { results := [.lit (.bool false)], args := [d1, d2] }
  | _ => none }
def LengthBackWrongFalsely : Prop := lengthBackRow.holds Tryd.pinned (OpenSpec.ofChange lengthBackWrong)

/-- 'formelaw8.LengthAll': WHATEVER THE INPUT: true; the input reads as it did. -/
def lengthAllSpec : ChangeSpec := { name := "lengthAll", fn := fun _ => fun
  | [d] => { results := [.lit (.bool true)], args := [d] }
  | _ => none }
def lengthAllRow : OpenClaim := { program := "ytnbagilcbngdcaadoor", sum := "9ade22ded9ddfac5cab21ed12357c30a8b6d3370f26f502b65031027c9bf00ea", func := "forme/formelaw8.LengthAll", spec := "lengthAll", named := ["internal/strconv.uint64pow10", "math/bits.deBruijn32tab", "math/bits.deBruijn64tab"], apart := false, laid := [("math/bits.deBruijn32tab", laid_math_bits_deBruijn32tab), ("math/bits.deBruijn64tab", laid_math_bits_deBruijn64tab), ("internal/strconv.uint64pow10", laid_internal_strconv_uint64pow10)] }
def LengthAllSaid : Prop := lengthAllRow.holds Tryd.pinned (OpenSpec.ofChange lengthAllSpec)

/-- ITS FALSE NEIGHBOUR: 'it returns false'. Refute it at one input. -/
def lengthAllWrong : ChangeSpec := { name := "lengthAll", fn := fun _ => fun
  | [d] => { results := [.lit (.bool false)], args := [d] }
  | _ => none }
def LengthAllWrongFalsely : Prop := lengthAllRow.holds Tryd.pinned (OpenSpec.ofChange lengthAllWrong)

/-- 'formelaw10.Cascades': WHATEVER THE INPUT: true; the input reads as it did. -/
def cascadesSpec : ChangeSpec := { name := "cascades", fn := fun _ => fun
  | [d1, d2, d3] => { results := [.lit (.bool true)], args := [d1, d2, d3] }
  | _ => none }
def cascadesRow : OpenClaim := { program := "ytnbagilcbngdcaadoor", sum := "9ade22ded9ddfac5cab21ed12357c30a8b6d3370f26f502b65031027c9bf00ea", func := "forme/formelaw10.Cascades", spec := "cascades", unfollowed := true, recurses := true, named := ["forme/prop.names", "forme/mode.rightToLeft", "forme/mode.edges", "internal/strconv.uint64pow10", "math/bits.deBruijn32tab", "math/bits.deBruijn64tab"], apart := false, laid := [("forme/mode.edges", laid_forme_mode_edges), ("forme/mode.rightToLeft", laid_forme_mode_rightToLeft), ("forme/prop.names", laid_forme_prop_names), ("math/bits.deBruijn32tab", laid_math_bits_deBruijn32tab), ("math/bits.deBruijn64tab", laid_math_bits_deBruijn64tab), ("internal/strconv.uint64pow10", laid_internal_strconv_uint64pow10)] }
def CascadesSaid : Prop := cascadesRow.holds Tryd.pinned (OpenSpec.ofChange cascadesSpec)

/-- ITS FALSE NEIGHBOUR: 'it returns false'. Refute it at one input. -/
def cascadesWrong : ChangeSpec := { name := "cascades", fn := fun _ => fun
  | [d1, d2, d3] => { results := [.lit (.bool false)], args := [d1, d2, d3] }
  | _ => none }
def CascadesWrongFalsely : Prop := cascadesRow.holds Tryd.pinned (OpenSpec.ofChange cascadesWrong)

/-- 'formelaw10.CascadeLast': WHATEVER THE INPUT: true; the input reads as it did. -/
def cascadeLastSpec : ChangeSpec := { name := "cascadeLast", fn := fun _ => fun
  | [d1, d2, d3, d4] => { results := [.lit (.bool true)], args := [d1, d2, d3, d4] }
  | _ => none }
def cascadeLastRow : OpenClaim := { program := "ytnbagilcbngdcaadoor", sum := "9ade22ded9ddfac5cab21ed12357c30a8b6d3370f26f502b65031027c9bf00ea", func := "forme/formelaw10.CascadeLast", spec := "cascadeLast", unfollowed := true, recurses := true, named := ["forme/prop.names", "forme/mode.rightToLeft", "forme/mode.edges", "internal/strconv.uint64pow10", "math/bits.deBruijn32tab", "math/bits.deBruijn64tab"], apart := false, laid := [("forme/mode.edges", laid_forme_mode_edges), ("forme/mode.rightToLeft", laid_forme_mode_rightToLeft), ("forme/prop.names", laid_forme_prop_names), ("math/bits.deBruijn32tab", laid_math_bits_deBruijn32tab), ("math/bits.deBruijn64tab", laid_math_bits_deBruijn64tab), ("internal/strconv.uint64pow10", laid_internal_strconv_uint64pow10)] }
def CascadeLastSaid : Prop := cascadeLastRow.holds Tryd.pinned (OpenSpec.ofChange cascadeLastSpec)

/-- ITS FALSE NEIGHBOUR: 'it returns false'. Refute it at one input. -/
def cascadeLastWrong : ChangeSpec := { name := "cascadeLast", fn := fun _ => fun
  | [d1, d2, d3, d4] => { results := [.lit (.bool false)], args := [d1, d2, d3, d4] }
  | _ => none }
def CascadeLastWrongFalsely : Prop := cascadeLastRow.holds Tryd.pinned (OpenSpec.ofChange cascadeLastWrong)

/-- 'formelaw10.CascadeForms': WHATEVER THE INPUT: true; the input reads as it did. -/
def cascadeFormsSpec : ChangeSpec := { name := "cascadeForms", fn := fun _ => fun
  | [d1, d2] => { results := [.lit (.bool true)], args := [d1, d2] }
  | _ => none }
def cascadeFormsRow : OpenClaim := { program := "ytnbagilcbngdcaadoor", sum := "9ade22ded9ddfac5cab21ed12357c30a8b6d3370f26f502b65031027c9bf00ea", func := "forme/formelaw10.CascadeForms", spec := "cascadeForms", unfollowed := true, recurses := true, named := ["forme/prop.names", "forme/mode.rightToLeft", "forme/mode.edges", "internal/strconv.uint64pow10", "math/bits.deBruijn32tab", "math/bits.deBruijn64tab"], apart := false, laid := [("forme/mode.edges", laid_forme_mode_edges), ("forme/mode.rightToLeft", laid_forme_mode_rightToLeft), ("forme/prop.names", laid_forme_prop_names), ("math/bits.deBruijn32tab", laid_math_bits_deBruijn32tab), ("math/bits.deBruijn64tab", laid_math_bits_deBruijn64tab), ("internal/strconv.uint64pow10", laid_internal_strconv_uint64pow10)] }
def CascadeFormsSaid : Prop := cascadeFormsRow.holds Tryd.pinned (OpenSpec.ofChange cascadeFormsSpec)

/-- ITS FALSE NEIGHBOUR: 'it returns false'. Refute it at one input. -/
def cascadeFormsWrong : ChangeSpec := { name := "cascadeForms", fn := fun _ => fun
  | [d1, d2] => { results := [.lit (.bool false)], args := [d1, d2] }
  | _ => none }
def CascadeFormsWrongFalsely : Prop := cascadeFormsRow.holds Tryd.pinned (OpenSpec.ofChange cascadeFormsWrong)

/-- 'formelaw10.CascadeRow': WHATEVER THE INPUT: true; the input reads as it did. -/
def cascadeRowSpec : ChangeSpec := { name := "cascadeRow", fn := fun _ => fun
  | [d1, d2, d3, d4] => { results := [.lit (.bool true)], args := [d1, d2, d3, d4] }
  | _ => none }
def cascadeRowRow : OpenClaim := { program := "ytnbagilcbngdcaadoor", sum := "9ade22ded9ddfac5cab21ed12357c30a8b6d3370f26f502b65031027c9bf00ea", func := "forme/formelaw10.CascadeRow", spec := "cascadeRow", unfollowed := true, recurses := true, named := ["forme/prop.names", "forme/mode.rightToLeft", "forme/mode.edges", "internal/strconv.uint64pow10", "math/bits.deBruijn32tab", "math/bits.deBruijn64tab"], apart := false, laid := [("forme/mode.edges", laid_forme_mode_edges), ("forme/mode.rightToLeft", laid_forme_mode_rightToLeft), ("forme/prop.names", laid_forme_prop_names), ("math/bits.deBruijn32tab", laid_math_bits_deBruijn32tab), ("math/bits.deBruijn64tab", laid_math_bits_deBruijn64tab), ("internal/strconv.uint64pow10", laid_internal_strconv_uint64pow10)] }
def CascadeRowSaid : Prop := cascadeRowRow.holds Tryd.pinned (OpenSpec.ofChange cascadeRowSpec)

/-- ITS FALSE NEIGHBOUR: 'it returns false'. Refute it at one input. -/
def cascadeRowWrong : ChangeSpec := { name := "cascadeRow", fn := fun _ => fun
  | [d1, d2, d3, d4] => { results := [.lit (.bool false)], args := [d1, d2, d3, d4] }
  | _ => none }
def CascadeRowWrongFalsely : Prop := cascadeRowRow.holds Tryd.pinned (OpenSpec.ofChange cascadeRowWrong)

/-- 'formelaw10.CascadePassed': WHATEVER THE INPUT: true; the input reads as it did. -/
def cascadePassedSpec : ChangeSpec := { name := "cascadePassed", fn := fun _ => fun
  | [d] => { results := [.lit (.bool true)], args := [d] }
  | _ => none }
def cascadePassedRow : OpenClaim := { program := "ytnbagilcbngdcaadoor", sum := "9ade22ded9ddfac5cab21ed12357c30a8b6d3370f26f502b65031027c9bf00ea", func := "forme/formelaw10.CascadePassed", spec := "cascadePassed", unfollowed := true, recurses := true, named := ["forme/prop.names", "forme/mode.rightToLeft", "forme/mode.edges", "internal/strconv.uint64pow10", "math/bits.deBruijn32tab", "math/bits.deBruijn64tab"], apart := false, laid := [("forme/mode.edges", laid_forme_mode_edges), ("forme/mode.rightToLeft", laid_forme_mode_rightToLeft), ("forme/prop.names", laid_forme_prop_names), ("math/bits.deBruijn32tab", laid_math_bits_deBruijn32tab), ("math/bits.deBruijn64tab", laid_math_bits_deBruijn64tab), ("internal/strconv.uint64pow10", laid_internal_strconv_uint64pow10)] }
def CascadePassedSaid : Prop := cascadePassedRow.holds Tryd.pinned (OpenSpec.ofChange cascadePassedSpec)

/-- ITS FALSE NEIGHBOUR: 'it returns false'. Refute it at one input. -/
def cascadePassedWrong : ChangeSpec := { name := "cascadePassed", fn := fun _ => fun
  | [d] => { results := [.lit (.bool false)], args := [d] }
  | _ => none }
def CascadePassedWrongFalsely : Prop := cascadePassedRow.holds Tryd.pinned (OpenSpec.ofChange cascadePassedWrong)

/-- 'formelaw10.CascadeOrder': WHATEVER THE INPUT: true; the input reads as it did. -/
def cascadeOrderSpec : ChangeSpec := { name := "cascadeOrder", fn := fun _ => fun
  | [d1, d2, d3] => { results := [.lit (.bool true)], args := [d1, d2, d3] }
  | _ => none }
def cascadeOrderRow : OpenClaim := { program := "ytnbagilcbngdcaadoor", sum := "9ade22ded9ddfac5cab21ed12357c30a8b6d3370f26f502b65031027c9bf00ea", func := "forme/formelaw10.CascadeOrder", spec := "cascadeOrder", unfollowed := true, recurses := true, named := ["forme/prop.names", "forme/mode.rightToLeft", "forme/mode.edges", "internal/strconv.uint64pow10", "math/bits.deBruijn32tab", "math/bits.deBruijn64tab"], apart := false, laid := [("forme/mode.edges", laid_forme_mode_edges), ("forme/mode.rightToLeft", laid_forme_mode_rightToLeft), ("forme/prop.names", laid_forme_prop_names), ("math/bits.deBruijn32tab", laid_math_bits_deBruijn32tab), ("math/bits.deBruijn64tab", laid_math_bits_deBruijn64tab), ("internal/strconv.uint64pow10", laid_internal_strconv_uint64pow10)] }
def CascadeOrderSaid : Prop := cascadeOrderRow.holds Tryd.pinned (OpenSpec.ofChange cascadeOrderSpec)

/-- ITS FALSE NEIGHBOUR: 'it returns false'. Refute it at one input. -/
def cascadeOrderWrong : ChangeSpec := { name := "cascadeOrder", fn := fun _ => fun
  | [d1, d2, d3] => { results := [.lit (.bool false)], args := [d1, d2, d3] }
  | _ => none }
def CascadeOrderWrongFalsely : Prop := cascadeOrderRow.holds Tryd.pinned (OpenSpec.ofChange cascadeOrderWrong)

/- THE SECOND FORM. 'bulk': how many values and letters a reading holds, each counted each time it is reached (what is shared counts as often as it is met; a slice's spare places count too). A statement '..UptoSaid' is the law's where the arguments, and the package variables that the reading takes, are together of bulk at most 1048576: NARROWER than '..Said'. Prove '..Said' where nothing that the law and all that it calls make is longer than what came in: it says more and counts as full. Else prove '..UptoSaid'. A law counts once. -/
mutual
def uptoBulk {H : Type} : DataW H → Nat
  | .lit (.string bytes) => bytes.length + 1
  | .lit _ => 1
  | .nil => 1
  | .ptr d => uptoBulk d + 1
  | .slice elems spare => uptoBulkAll elems + uptoBulkAll spare + 1
  | .agg parts => uptoBulkAll parts + 1
  | .iface _ d => uptoBulk d + 1
  | .map entries => uptoBulkEntries entries + 1
  | .held _ => 1
def uptoBulkAll {H : Type} : List (DataW H) → Nat
  | [] => 0
  | d :: r => uptoBulk d + uptoBulkAll r
def uptoBulkEntries {H : Type} : List (Lit × DataW H) → Nat
  | [] => 0
  | x :: r => uptoBulkEntry x + uptoBulkEntries r
def uptoBulkEntry {H : Type} : Lit × DataW H → Nat
  | (.string bytes, d) => bytes.length + uptoBulk d + 1
  | (_, d) => uptoBulk d + 1
 end
def uptoSmall : (H : Type) → List (DataW H) → Bool := fun _ ds => decide (uptoBulkAll ds ≤ 1048576)
def OpenSpec.upto (s : _root_.Go.ChangeSpec) : _root_.Go.OpenSpec := { _root_.Go.OpenSpec.ofChange s with cond := some uptoSmall }

/-- 'formelaw8.LengthBack', WHERE WHAT IT READS IS OF BULK AT MOST 1048576: true; the input reads as it did. -/
def lengthBackUptoRow : OpenClaim := { program := "ytnbagilcbngdcaadoor", sum := "9ade22ded9ddfac5cab21ed12357c30a8b6d3370f26f502b65031027c9bf00ea", func := "forme/formelaw8.LengthBack", spec := "lengthBack", named := ["internal/strconv.uint64pow10", "math/bits.deBruijn32tab", "math/bits.deBruijn64tab"], apart := false, laid := [("math/bits.deBruijn32tab", laid_math_bits_deBruijn32tab), ("math/bits.deBruijn64tab", laid_math_bits_deBruijn64tab), ("internal/strconv.uint64pow10", laid_internal_strconv_uint64pow10)], narrowed := true }
def LengthBackUptoSaid : Prop := lengthBackUptoRow.holds Tryd.pinned (OpenSpec.upto lengthBackSpec)

/-- 'formelaw8.LengthAll', WHERE WHAT IT READS IS OF BULK AT MOST 1048576: true; the input reads as it did. -/
def lengthAllUptoRow : OpenClaim := { program := "ytnbagilcbngdcaadoor", sum := "9ade22ded9ddfac5cab21ed12357c30a8b6d3370f26f502b65031027c9bf00ea", func := "forme/formelaw8.LengthAll", spec := "lengthAll", named := ["internal/strconv.uint64pow10", "math/bits.deBruijn32tab", "math/bits.deBruijn64tab"], apart := false, laid := [("math/bits.deBruijn32tab", laid_math_bits_deBruijn32tab), ("math/bits.deBruijn64tab", laid_math_bits_deBruijn64tab), ("internal/strconv.uint64pow10", laid_internal_strconv_uint64pow10)], narrowed := true }
def LengthAllUptoSaid : Prop := lengthAllUptoRow.holds Tryd.pinned (OpenSpec.upto lengthAllSpec)

/-- 'formelaw10.Cascades', WHERE WHAT IT READS IS OF BULK AT MOST 1048576: true; the input reads as it did. -/
def cascadesUptoRow : OpenClaim := { program := "ytnbagilcbngdcaadoor", sum := "9ade22ded9ddfac5cab21ed12357c30a8b6d3370f26f502b65031027c9bf00ea", func := "forme/formelaw10.Cascades", spec := "cascades", unfollowed := true, recurses := true, named := ["forme/prop.names", "forme/mode.rightToLeft", "forme/mode.edges", "internal/strconv.uint64pow10", "math/bits.deBruijn32tab", "math/bits.deBruijn64tab"], apart := false, laid := [("forme/mode.edges", laid_forme_mode_edges), ("forme/mode.rightToLeft", laid_forme_mode_rightToLeft), ("forme/prop.names", laid_forme_prop_names), ("math/bits.deBruijn32tab", laid_math_bits_deBruijn32tab), ("math/bits.deBruijn64tab", laid_math_bits_deBruijn64tab), ("internal/strconv.uint64pow10", laid_internal_strconv_uint64pow10)], narrowed := true }
def CascadesUptoSaid : Prop := cascadesUptoRow.holds Tryd.pinned (OpenSpec.upto cascadesSpec)

/-- 'formelaw10.CascadeLast', WHERE WHAT IT READS IS OF BULK AT MOST 1048576: true; the input reads as it did. -/
def cascadeLastUptoRow : OpenClaim := { program := "ytnbagilcbngdcaadoor", sum := "9ade22ded9ddfac5cab21ed12357c30a8b6d3370f26f502b65031027c9bf00ea", func := "forme/formelaw10.CascadeLast", spec := "cascadeLast", unfollowed := true, recurses := true, named := ["forme/prop.names", "forme/mode.rightToLeft", "forme/mode.edges", "internal/strconv.uint64pow10", "math/bits.deBruijn32tab", "math/bits.deBruijn64tab"], apart := false, laid := [("forme/mode.edges", laid_forme_mode_edges), ("forme/mode.rightToLeft", laid_forme_mode_rightToLeft), ("forme/prop.names", laid_forme_prop_names), ("math/bits.deBruijn32tab", laid_math_bits_deBruijn32tab), ("math/bits.deBruijn64tab", laid_math_bits_deBruijn64tab), ("internal/strconv.uint64pow10", laid_internal_strconv_uint64pow10)], narrowed := true }
def CascadeLastUptoSaid : Prop := cascadeLastUptoRow.holds Tryd.pinned (OpenSpec.upto cascadeLastSpec)

/-- 'formelaw10.CascadeForms', WHERE WHAT IT READS IS OF BULK AT MOST 1048576: true; the input reads as it did. -/
def cascadeFormsUptoRow : OpenClaim := { program := "ytnbagilcbngdcaadoor", sum := "9ade22ded9ddfac5cab21ed12357c30a8b6d3370f26f502b65031027c9bf00ea", func := "forme/formelaw10.CascadeForms", spec := "cascadeForms", unfollowed := true, recurses := true, named := ["forme/prop.names", "forme/mode.rightToLeft", "forme/mode.edges", "internal/strconv.uint64pow10", "math/bits.deBruijn32tab", "math/bits.deBruijn64tab"], apart := false, laid := [("forme/mode.edges", laid_forme_mode_edges), ("forme/mode.rightToLeft", laid_forme_mode_rightToLeft), ("forme/prop.names", laid_forme_prop_names), ("math/bits.deBruijn32tab", laid_math_bits_deBruijn32tab), ("math/bits.deBruijn64tab", laid_math_bits_deBruijn64tab), ("internal/strconv.uint64pow10", laid_internal_strconv_uint64pow10)], narrowed := true }
def CascadeFormsUptoSaid : Prop := cascadeFormsUptoRow.holds Tryd.pinned (OpenSpec.upto cascadeFormsSpec)

/-- 'formelaw10.CascadeRow', WHERE WHAT IT READS IS OF BULK AT MOST 1048576: true; the input reads as it did. -/
def cascadeRowUptoRow : OpenClaim := { program := "ytnbagilcbngdcaadoor", sum := "9ade22ded9ddfac5cab21ed12357c30a8b6d3370f26f502b65031027c9bf00ea", func := "forme/formelaw10.CascadeRow", spec := "cascadeRow", unfollowed := true, recurses := true, named := ["forme/prop.names", "forme/mode.rightToLeft", "forme/mode.edges", "internal/strconv.uint64pow10", "math/bits.deBruijn32tab", "math/bits.deBruijn64tab"], apart := false, laid := [("forme/mode.edges", laid_forme_mode_edges), ("forme/mode.rightToLeft", laid_forme_mode_rightToLeft), ("forme/prop.names", laid_forme_prop_names), ("math/bits.deBruijn32tab", laid_math_bits_deBruijn32tab), ("math/bits.deBruijn64tab", laid_math_bits_deBruijn64tab), ("internal/strconv.uint64pow10", laid_internal_strconv_uint64pow10)], narrowed := true }
def CascadeRowUptoSaid : Prop := cascadeRowUptoRow.holds Tryd.pinned (OpenSpec.upto cascadeRowSpec)

/-- 'formelaw10.CascadePassed', WHERE WHAT IT READS IS OF BULK AT MOST 1048576: true; the input reads as it did. -/
def cascadePassedUptoRow : OpenClaim := { program := "ytnbagilcbngdcaadoor", sum := "9ade22ded9ddfac5cab21ed12357c30a8b6d3370f26f502b65031027c9bf00ea", func := "forme/formelaw10.CascadePassed", spec := "cascadePassed", unfollowed := true, recurses := true, named := ["forme/prop.names", "forme/mode.rightToLeft", "forme/mode.edges", "internal/strconv.uint64pow10", "math/bits.deBruijn32tab", "math/bits.deBruijn64tab"], apart := false, laid := [("forme/mode.edges", laid_forme_mode_edges), ("forme/mode.rightToLeft", laid_forme_mode_rightToLeft), ("forme/prop.names", laid_forme_prop_names), ("math/bits.deBruijn32tab", laid_math_bits_deBruijn32tab), ("math/bits.deBruijn64tab", laid_math_bits_deBruijn64tab), ("internal/strconv.uint64pow10", laid_internal_strconv_uint64pow10)], narrowed := true }
def CascadePassedUptoSaid : Prop := cascadePassedUptoRow.holds Tryd.pinned (OpenSpec.upto cascadePassedSpec)

/-- 'formelaw10.CascadeOrder', WHERE WHAT IT READS IS OF BULK AT MOST 1048576: true; the input reads as it did. -/
def cascadeOrderUptoRow : OpenClaim := { program := "ytnbagilcbngdcaadoor", sum := "9ade22ded9ddfac5cab21ed12357c30a8b6d3370f26f502b65031027c9bf00ea", func := "forme/formelaw10.CascadeOrder", spec := "cascadeOrder", unfollowed := true, recurses := true, named := ["forme/prop.names", "forme/mode.rightToLeft", "forme/mode.edges", "internal/strconv.uint64pow10", "math/bits.deBruijn32tab", "math/bits.deBruijn64tab"], apart := false, laid := [("forme/mode.edges", laid_forme_mode_edges), ("forme/mode.rightToLeft", laid_forme_mode_rightToLeft), ("forme/prop.names", laid_forme_prop_names), ("math/bits.deBruijn32tab", laid_math_bits_deBruijn32tab), ("math/bits.deBruijn64tab", laid_math_bits_deBruijn64tab), ("internal/strconv.uint64pow10", laid_internal_strconv_uint64pow10)], narrowed := true }
def CascadeOrderUptoSaid : Prop := cascadeOrderUptoRow.holds Tryd.pinned (OpenSpec.upto cascadeOrderSpec)

end Rows
end Go.Proofs.YtnbagilcbngdcaaDoor
