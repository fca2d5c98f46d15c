/- Layer 18: words, aligns, floats, numbers that may not be. -/
import Derived.Test.YtkonpnaedniceaaLaw18All
import Derived.Test.YtkonpnaedniceaaMask
namespace Go.Proofs.Ytkonpnaedniceaa
open Go.RowKit Go.Deep
set_option linter.unusedSimpArgs false
set_option linter.unusedVariables false
theorem rv_none (k : Nat) (w : World) (C : Nat → Nat → Value) : RV k w (.slice none 0 0) 0 C := .inl ⟨rfl, none, 0, rfl⟩
theorem wv_none (w : World) (S : Nat → ByteArray) (A G : Nat → Int) : WV w (.slice none 0 0) 0 S A G := .inl ⟨rfl, none, 0, rfl⟩
theorem wv_one {w : World} {b : Nat} {t : TypeId} {a : Int} (h : Own w b t #[.string ByteArray.empty, .int .i64 a, .int .i64 0]) : WV w (.slice (some ⟨b, 0, none⟩) 1 1) 1 (fun _ => ByteArray.empty) (fun _ => a) (fun _ => 0) := by
  refine .inr ⟨b, 0, 1, rfl, by decide, by decide, ⟨fun i hi => ?_, fun i hi => ?_, fun i hi => ?_⟩⟩
  · obtain rfl : i = 0 := by omega
    exact h.cell 0
  · obtain rfl : i = 0 := by omega
    exact h.cell 1
  · obtain rfl : i = 0 := by omega
    exact h.cell 2
theorem flowFlow_no (vw : Value) (m : Nat) (S : Nat → ByteArray) (A G : Nat → Int) (how : Int) (v : Value) (n : Nat) (Z : Nat → Nat → Int) (room y : Int) (w : World) (hw : WV w vw m S A G) (hv : RV 5 w v n (intC Z)) (hn : n ≤ 4611686018427387904) (hb : flowB ⟨excOf Z, n, room, A, m, how, y⟩ = false) :
    Calls Try.prog 14 #[vw, .int .i64 how, v, .int .i64 room, .int .i64 y] w fun e w' => ∃ o cap, e = .returned (.tuple #[.slice o 0 cap, .int .i64 0, .int .i64 1800]) ∧ Kept w w' :=
  (flowFlow_any vw m S A G how v n Z room y w hw hv hn).mono fun e w' ⟨u, he, hr, hk⟩ => by
    rw [show flowY ⟨excOf Z, n, room, A, m, how, y⟩ = 0 from if_neg (by rw [hb]; decide), show flowE ⟨excOf Z, n, room, A, m, how, y⟩ = 1800 from if_neg (by rw [hb]; decide)] at he
    rw [show flowN ⟨excOf Z, n, room, A, m, how, y⟩ = 0 from if_neg (by rw [hb]; decide)] at hr
    obtain ⟨o, cap, rfl⟩ := hr.rv.shape
    exact ⟨o, cap, he, hk⟩
theorem flowFlow_nil (w : World) :
    Calls Try.prog 14 #[.slice none 0 0, .int .i64 0, .slice none 0 0, .int .i64 100, .int .i64 7] w fun e w' => ∃ o cap, e = .returned (.tuple #[.slice o 0 cap, .int .i64 7, .int .i64 0]) ∧ Kept w w' :=
  (flowFlow_any (.slice none 0 0) 0 (fun _ => ByteArray.empty) (fun _ => 0) (fun _ => 0) 0 (.slice none 0 0) 0 (fun _ _ => 0) 100 7 w (wv_none _ _ _ _) (rv_none _ _ _) (by decide)).mono fun e w' ⟨u, he, hr, hk⟩ => by
    have hb : flowB ⟨excOf (fun _ _ => 0), 0, 100, fun _ => 0, 0, 0, 7⟩ = true := by decide
    have hn : Flw.N ⟨excOf (fun _ _ => 0), 0, 100, fun _ => 0, 0, 0, 7⟩ = 0 := Flw.N_is (l := 0) rfl
    rw [show flowY ⟨excOf (fun _ _ => 0), 0, 100, fun _ => 0, 0, 0, 7⟩ = 7 by unfold flowY; rw [if_pos hb, hn]; rfl, show flowE ⟨excOf (fun _ _ => 0), 0, 100, fun _ => 0, 0, 0, 7⟩ = 0 from if_pos hb] at he
    rw [show flowN ⟨excOf (fun _ _ => 0), 0, 100, fun _ => 0, 0, 0, 7⟩ = 0 by unfold flowN; rw [if_pos hb, hn]] at hr
    obtain ⟨o, cap, rfl⟩ := hr.rv.shape
    exact ⟨o, cap, he, hk⟩
end Go.Proofs.Ytkonpnaedniceaa
