/- Layer 3: geometry: boxes of rectangles, and back. -/
import Derived.Test.YtbjkphelkfeliaaDoorGeom1
namespace Go.Proofs.YtbjkphelkfeliaaDoor
open Go.RowKit
set_option linter.unusedSimpArgs false
set_option linter.unusedVariables false
abbrev fourV (a b c d : Int) : Value := .agg #[.int .i64 a, .int .i64 b, .int .i64 c, .int .i64 d]
abbrev Four := Int × Int × Int × Int
abbrev resV (r : Four × Int) : Value := .tuple #[fourV r.1.1 r.1.2.1 r.1.2.2.1 r.1.2.2.2, .int .i64 r.2]
def physOkB (wm di ia ib ra rb sa sb : Int) : Bool := modeMayB wm di && sizedB ia ib && sizedB sa sb && mayB ra && mayB rb
def physS (wm di ia ib ra rb sa sb : Int) : Four × Int :=
  if physOkB wm di ia ib ra rb sa sb = true then
    (if vertB wm di = true then (turnS (farB wm di 2) ib rb sb, turnS (farB wm di 0) ia ra sa, sb, sa) else (turnS (farB wm di 0) ia ra sa, turnS (farB wm di 2) ib rb sb, sa, sb), 0)
  else ((0, 0, 0, 0), 300)
def farXB (x : Int) : Bool := inB (-4294967296) 4294967296 x
def farXB2 (x y : Int) : Bool := farXB x && farXB y
def backOkB (wm di ia ib x y bw bh : Int) : Bool := modeMayB wm di && sizedB ia ib && sizedB bw bh && farXB2 x y
def backS (wm di ia ib x y bw bh : Int) : Four × Int :=
  if backOkB wm di ia ib x y bw bh = true then
    (if vertB wm di = true then (turnS (farB wm di 0) ia y bh, turnS (farB wm di 2) ib x bw, bh, bw) else (turnS (farB wm di 0) ia x bw, turnS (farB wm di 2) ib y bh, bw, bh), 0)
  else ((0, 0, 0, 0), 300)
theorem eachSized_any (x y : Int) (b : Nat) (w : World) (hx : w.cell? ⟨b, 0, none⟩ = some (.int .i64 x)) (hy : w.cell? ⟨b, 1, none⟩ = some (.int .i64 y)) :
    Calls Tryd.prog 19 #[.int .i64 0, .int .i64 1073741824, .slice (some ⟨b, 0, none⟩) 2 2] w fun e w' => e = .returned (.bool (sizedB x y)) ∧ w = w' := each2_any _ _ _ _ _ _ hx hy
theorem eachFar_any (x y : Int) (b : Nat) (w : World) (hx : w.cell? ⟨b, 0, none⟩ = some (.int .i64 x)) (hy : w.cell? ⟨b, 1, none⟩ = some (.int .i64 y)) :
    Calls Tryd.prog 19 #[.int .i64 (-4294967296), .int .i64 4294967296, .slice (some ⟨b, 0, none⟩) 2 2] w fun e w' => e = .returned (.bool (farXB2 x y)) ∧ w = w' := each2_any _ _ _ _ _ _ hx hy
end Go.Proofs.YtbjkphelkfeliaaDoor
