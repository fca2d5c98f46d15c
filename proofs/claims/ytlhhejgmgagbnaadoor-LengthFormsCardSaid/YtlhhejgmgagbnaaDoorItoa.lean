/- strconv.Itoa at this program: the plain text of its laying. -/
import Derived.Test.YtlhhejgmgagbnaaDoorBase
import Derived.Shelf.Strconv.Itoa3
import Derived.Lib.AppendIntMem
import Derived.Ground.NamesProg
namespace Go.Proofs.YtlhhejgmgagbnaaDoor
open Go.RowKit Go.Shelf
set_option linter.unusedVariables false
def laysItoa_ren : Go.Shelf.Ren := ⟨fun | 171 => 31 | 243 => 55 | 246 => 72 | 283 => 82 | 284 => 83 | 285 => 84 | 286 => 85 | 129 => 88 | 317 => 87 | 318 => 89 | 319 => 90 | 320 => 91 | 337 => 93 | 338 => 94 | n => n, fun | 3 => 3 | 9 => 9 | 2 => 2 | 4 => 4 | 171 => 109 | 0 => 0 | 53 => 86 | 37 => 87 | 5 => 5 | 173 => 112 | 212 => 116 | 51 => 117 | 20 => 20 | 213 => 118 | 46 => 42 | 232 => 123 | 233 => 124 | n => n, fun | 17 => 1 | 18 => 4 | 19 => 5 | n => n⟩
theorem laysItoa : Go.Proofs.LaysM.n171 Tryd.prog laysItoa_ren :=
  { mixed := by kernel_rfl
    f129 := Tryd.func88.trans (congrArg some (by kernel_rfl))
    f171 := Tryd.func31.trans (congrArg some (by kernel_rfl))
    f243 := Tryd.func55.trans (congrArg some (by kernel_rfl))
    f246 := Tryd.func72.trans (congrArg some (by kernel_rfl))
    f283 := Tryd.func82.trans (congrArg some (by kernel_rfl))
    f284 := Tryd.func83.trans (congrArg some (by kernel_rfl))
    f285 := Tryd.func84.trans (congrArg some (by kernel_rfl))
    f286 := Tryd.func85.trans (congrArg some (by kernel_rfl))
    f317 := Tryd.func87.trans (congrArg some (by kernel_rfl))
    f318 := Tryd.func89.trans (congrArg some (by kernel_rfl))
    f319 := Tryd.func90.trans (congrArg some (by kernel_rfl))
    f320 := Tryd.func91.trans (congrArg some (by kernel_rfl))
    f337 := Tryd.func93.trans (congrArg some (by kernel_rfl))
    f338 := Tryd.func94.trans (congrArg some (by kernel_rfl))
    t0 := Tryd.underlying0
    a0 := Tryd.isAgg0
    z0 := Tryd.sizeOf0
    v0 := Tryd.zeroValue0
    t2 := Tryd.underlying2
    a2 := Tryd.isAgg2
    z2 := Tryd.sizeOf2
    v2 := Tryd.zeroValue2
    t3 := Tryd.underlying3
    a3 := Tryd.isAgg3
    z3 := Tryd.sizeOf3
    v3 := Tryd.zeroValue3
    t4 := Tryd.underlying4
    a4 := Tryd.isAgg4
    z4 := Tryd.sizeOf4
    v4 := Tryd.zeroValue4
    t5 := Tryd.underlying5
    a5 := Tryd.isAgg5
    z5 := Tryd.sizeOf5
    v5 := Tryd.zeroValue5
    t9 := Tryd.underlying9
    a9 := Tryd.isAgg9
    z9 := Tryd.sizeOf9
    v9 := Tryd.zeroValue9
    t20 := Tryd.underlying20
    a20 := Tryd.isAgg20
    z20 := Tryd.sizeOf20
    v20 := Tryd.zeroValue20
    t37 := Tryd.underlying87
    a37 := Tryd.isAgg87
    z37 := Tryd.sizeOf87
    v37 := Tryd.zeroValue87
    t46 := Tryd.underlying42
    a46 := Tryd.isAgg42
    z46 := Tryd.sizeOf42
    v46 := Tryd.zeroValue42
    t51 := Tryd.underlying117
    a51 := Tryd.isAgg117
    z51 := Tryd.sizeOf117
    v51 := Tryd.zeroValue117
    t53 := Tryd.underlying86
    a53 := Tryd.isAgg86
    z53 := Tryd.sizeOf86
    v53 := Tryd.zeroValue86
    t171 := Tryd.underlying109
    a171 := Tryd.isAgg109
    z171 := Tryd.sizeOf109
    v171 := Tryd.zeroValue109
    t173 := Tryd.underlying112
    a173 := Tryd.isAgg112
    z173 := Tryd.sizeOf112
    v173 := Tryd.zeroValue112
    t212 := Tryd.underlying116
    a212 := Tryd.isAgg116
    z212 := Tryd.sizeOf116
    v212 := Tryd.zeroValue116
    t213 := Tryd.underlying118
    a213 := Tryd.isAgg118
    z213 := Tryd.sizeOf118
    t232 := Tryd.underlying123
    a232 := Tryd.isAgg123
    z232 := Tryd.sizeOf123
    v232 := Tryd.zeroValue123
    t233 := Tryd.underlying124
    a233 := Tryd.isAgg124
    z233 := Tryd.sizeOf124
    v233 := Tryd.zeroValue124
    g17 := by kernel_rfl
    g18 := by kernel_rfl
    g19 := by kernel_rfl
    i0 := by kernel_rfl
    i2 := by kernel_rfl
    i3 := by kernel_rfl
    i4 := by kernel_rfl
    i5 := by kernel_rfl
    i9 := by kernel_rfl
    i20 := by kernel_rfl
    i37 := by kernel_rfl
    i46 := by kernel_rfl
    i51 := by kernel_rfl
    i53 := by kernel_rfl
    i171 := by kernel_rfl
    i173 := by kernel_rfl
    i212 := by kernel_rfl
    i232 := by kernel_rfl
    i233 := by kernel_rfl
    m17 := by kernel_rfl
    m18 := by kernel_rfl
    m19 := by kernel_rfl }
/-- the library's table stands -/
def Pow (w : World) : Prop := Lib.TabIs Tryd.prog w "internal/strconv.uint64pow10" .u64 Lib.pow10Tab
theorem itoa_any (n : Int) (h0 : -9223372036854775808 ≤ n) (h1 : n ≤ 9223372036854775807) (w : World) (hp : Pow w) :
    Calls Tryd.prog 31 #[.int .i64 n] w fun e w' => e = .returned (.string ⟨(Lib.itoa n).toArray⟩) ∧ Kept w w' :=
  (Any.strconv_Itoa laysItoa n h0 h1 w hp).mono fun e w' ⟨he, k, os, hw⟩ => ⟨he, by rw [hw]; exact ⟨Lib.below_grow _ _ (Nat.le_refl _) _ _⟩⟩
end Go.Proofs.YtlhhejgmgagbnaaDoor
