/- Layer 13: Law13Table. -/
import Derived.Test.YtpkphohgnelajaaAwake13
import Derived.Test.YtpkphohgnelajaaMinMax
import Derived.Test.YtpkphohgnelajaaOwnIf
import Derived.Test.YtpkphohgnelajaaMask
namespace Go.Proofs.Ytpkphohgnelajaa
open Go.RowKit
set_option linter.unusedSimpArgs false
set_option linter.unusedVariables false
set_option maxHeartbeats 4000000
set_option maxRecDepth 20000
def tabS (a b : Int) : Sty := ⟨⟨0, 0⟩, ⟨0, 0⟩, ⟨1, a⟩, ⟨1, b⟩, ⟨1, 0⟩, ⟨1, 0⟩, ⟨1, 0⟩, ⟨1, 0⟩, ⟨1, 0⟩, ⟨1, 0⟩, ⟨1, 0⟩, ⟨1, 0⟩, ⟨0, 0⟩, 0, 1, 0, 0, 0, false⟩
theorem table_may {a b : Int} (a0 : 0 ≤ a) (a1 : a ≤ 1023) (b0 : 0 ≤ b) (b1 : b ≤ 1023) : mayS (tabS a b) = true := by
  rw [← ref_may]
  have e1 : okL ⟨1, a⟩ = true := by unfold okL; rw [show lenB 1 a = true from inB_true.2 (by omega)]; simpa using a0
  have e2 : okL ⟨1, b⟩ = true := by unfold okL; rw [show lenB 1 b = true from inB_true.2 (by omega)]; simpa using b0
  unfold refS tabS
  simp only [e1, e2]
  rfl
theorem table_inline {a b y : Int} (a0 : 0 ≤ a) (a1 : a ≤ 1023) (b0 : 0 ≤ b) (b1 : b ≤ 1023) (y0 : 0 ≤ y) (y1 : y ≤ 2047) : clampInS (tabS a b) 99 y = (clampS y a b, 0) := by
  rw [inline_yes (table_may a0 a1 b0 b1) (by decide) (by decide) (by omega) (by omega)]
  have q1 : usedS 1 a 99 0 = (a, 0) := used_px (inB_true.2 (by omega)) (by decide) (by decide)
  have e1 : minS (tabS a b) 99 = a := by show (usedS 1 a 99 0).1 = a; rw [q1]
  have q2 : usedS 1 b 99 1073741824 = (b, 0) := used_px (inB_true.2 (by omega)) (by decide) (by decide)
  have e2 : maxS (tabS a b) 99 = b := by show (usedS 1 b 99 1073741824).1 = b; rw [q2]
  unfold inlineS betweenS
  rw [e1, e2]
  unfold clampS
  congr 1; omega
theorem clampTable_walk (x least most : Int) (w : World) :
    Calls Try.prog 6 #[.int .i64 x, .int .i64 least, .int .i64 most] w fun e w' => e = .returned (.bool true) ∧ Kept w w' := by
  obtain ⟨a, ha, a0, a1⟩ := masked least 10 1023 rfl (by decide)
  obtain ⟨b, hb, b0, b1⟩ := masked most 10 1023 rfl (by decide)
  obtain ⟨y, hy, y0, y1⟩ := masked x 11 2047 rfl (by decide)
  have h1 := table_inline a0 a1 b0 b1 y0 y1
  rcases (by unfold clampS; omega : (b < y ∧ b < a ∧ clampS y a b = a) ∨ (b < y ∧ a ≤ b ∧ clampS y a b = b) ∨ (y ≤ b ∧ y < a ∧ clampS y a b = a) ∨ (y ≤ b ∧ a ≤ y ∧ clampS y a b = y)) with ⟨g1, g2, g3⟩ | ⟨g1, g2, g3⟩ | ⟨g1, g2, g3⟩ | ⟨g1, g2, g3⟩
  all_goals
    have hk : Kept w w := Kept.refl w
    go_enter Try.func6, Try.ntmps6
    go_wp2_with fail
    refine (awake13_any _).mono ?_
    rintro e w1 ⟨rfl, hn⟩
    replace hk := hk.trans hn
    clear hn
    go_wp2_with fail
    refine (newStyle_lit _).mono ?_
    rintro e w1 ⟨rfl, hn⟩
    replace hk := hk.trans hn
    clear hn
    go_wp2_with (first | (refine here_store 26 _ _ rfl ?_; refine wpList_store_own rfl 26 _ _ rfl _ _ rfl rfl (Own.new _ _ _) (by rfl) (by kernel_rfl) (by rfl) ?_; intro X s hoX hkX; have hsz := hk.size; replace hk := hkX _ (hk.alloc _) (by first | omega | (simp; omega)); clear hoX hkX; have cs5 := s.at 5 _ rfl; have fs5 := s.free 5; have cs6 := s.at 6 _ rfl; have fs6 := s.free 6; have cs7 := s.at 7 _ rfl; have fs7 := s.free 7) | (refine here_load 26 _ rfl ?_; refine wpList_load_own rfl 26 _ rfl _ rfl (((s.set 5 _).set 6 _).set 7 _) _ Try.underlying26 rfl (by kernel_rfl) ?_))
    go_wp2_with fail
    refine with_eq ?_
    intro X eX
    have hsz := hk.size
    replace hk := (eX ▸ (by first | ((repeat (first | with_reducible exact hk | with_reducible refine Kept.alloc ?_ _ | with_reducible refine Kept.drew ?_ | with_reducible refine Kept.drewN ?_ _ | with_reducible refine Kept.set ?_ (by first | (simp; done) | (simp; omega) | omega) _)); done) | exact hk | exact (hk.alloc _) | exact ((hk.alloc _).alloc _) | exact (((hk.alloc _).alloc _).alloc _) | exact ((((hk.alloc _).alloc _).alloc _).alloc _) | exact (((((hk.alloc _).alloc _).alloc _).alloc _).alloc _) | exact ((((((hk.alloc _).alloc _).alloc _).alloc _).alloc _).alloc _) | (repeat (first | exact hk | refine Kept.alloc ?_ _ | refine Kept.drew ?_ | refine Kept.drewN ?_ _ | refine Kept.set ?_ (by first | (simp; done) | (simp; omega) | omega) _))) : Kept w X)
    replace s : Own X _ _ #[.int .i64 0, .int .i64 0, .int .i64 0, .int .i64 0, .int .i64 1, .int .i64 a, .int .i64 1, .int .i64 b, .int .i64 1, .int .i64 0, .int .i64 1, .int .i64 0, .int .i64 1, .int .i64 0, .int .i64 1, .int .i64 0, .int .i64 1, .int .i64 0, .int .i64 1, .int .i64 0, .int .i64 1, .int .i64 0, .int .i64 1, .int .i64 0, .int .i64 0, .int .i64 0, .int .i64 0, .int .i64 1, .int .i64 0, .int .i64 0, .int .i64 0, .bool false] := eX ▸ (((((s.set 5 _).set 6 _).set 7 _)).is (by rfl))
    clear eX
    clear fs5 fs6 fs7 cs5 cs6 cs7
    go_wp2_with fail
    refine (clampInline_any (tabS a b) 99 y _).mono ?_
    rintro e w1 ⟨rfl, hn⟩
    replace hk := hk.trans hn
    replace s := s.kept hn
    clear hn
    go_wp2_with fail
    refine (clampClamp_any _ _ _ _).mono ?_
    rintro e w1 ⟨rfl, rfl⟩
    go_wp2_with fail
    refine (num_any _ _).mono ?_
    rintro e w1 ⟨rfl, rfl⟩
    go_wp2
    go_ret
    exact ⟨rfl, hk⟩
end Go.Proofs.Ytpkphohgnelajaa
