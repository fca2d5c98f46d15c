/- Layer 13: the statements' check of itself. -/
import Derived.Test.YtpkphohgnelajaaInl
import Derived.Test.YtpkphohgnelajaaNewS
import Derived.Test.YtpkphohgnelajaaNum
namespace Go.Proofs.Ytpkphohgnelajaa
open Go.RowKit
set_option linter.unusedSimpArgs false
set_option linter.unusedVariables false

def awS : Sty := ⟨⟨0, 0⟩, ⟨0, 0⟩, ⟨2, 50⟩, ⟨1, 30⟩, ⟨1, 0⟩, ⟨1, 0⟩, ⟨1, 0⟩, ⟨1, 0⟩, ⟨1, 0⟩, ⟨1, 0⟩, ⟨1, 0⟩, ⟨1, 0⟩, ⟨0, 0⟩, 0, 1, 0, 0, 0, false⟩
def zeroS : Sty := ⟨⟨0, 0⟩, ⟨0, 0⟩, ⟨0, 0⟩, ⟨0, 0⟩, ⟨0, 0⟩, ⟨0, 0⟩, ⟨0, 0⟩, ⟨0, 0⟩, ⟨0, 0⟩, ⟨0, 0⟩, ⟨0, 0⟩, ⟨0, 0⟩, ⟨0, 0⟩, 0, 0, 0, 0, 0, false⟩
set_option maxHeartbeats 4000000 in
set_option maxRecDepth 20000 in
theorem awake13_any (w : World) :
    Calls Try.prog 18 #[] w fun e w' => e = .returned (.bool true) ∧ Kept w w' := by
  have hk : Kept w w := Kept.refl w
  go_enter Try.func18, Try.ntmps18
  go_wp2_with fail
  refine (newStyle_lit _).mono ?_
  rintro e w1 ⟨rfl, hn⟩
  replace hk := hk.trans hn
  clear hn
  go_wp2_with (first | (refine here_store 26 _ _ rfl ?_; refine wpList_store_own rfl 26 _ _ rfl _ _ rfl rfl (Own.new _ _ _) (by rfl) (by kernel_rfl) (by rfl) ?_; intro X s hoX hkX; have hsz := hk.size; replace hk := hkX _ (hk.alloc _) (by first | omega | (simp; omega)); clear hoX hkX; have cs4 := s.at 4 _ rfl; have fs4 := s.free 4; have cs5 := s.at 5 _ rfl; have fs5 := s.free 5; have cs6 := s.at 6 _ rfl; have fs6 := s.free 6; have cs7 := s.at 7 _ rfl; have fs7 := s.free 7) | (refine here_load 26 _ rfl ?_; refine wpList_load_own rfl 26 _ rfl _ rfl ((((s.set 4 _).set 5 _).set 6 _).set 7 _) _ Try.underlying26 rfl (by kernel_rfl) ?_))
  go_wp2_with fail
  refine with_eq ?_
  intro X eX
  have hsz := hk.size
  replace hk := (eX ▸ (by first | ((repeat (first | with_reducible exact hk | with_reducible refine Kept.alloc ?_ _ | with_reducible refine Kept.drew ?_ | with_reducible refine Kept.drewN ?_ _ | with_reducible refine Kept.set ?_ (by first | (simp; done) | (simp; omega) | omega) _)); done) | exact hk | exact (hk.alloc _) | exact ((hk.alloc _).alloc _) | exact (((hk.alloc _).alloc _).alloc _) | exact ((((hk.alloc _).alloc _).alloc _).alloc _) | exact (((((hk.alloc _).alloc _).alloc _).alloc _).alloc _) | exact ((((((hk.alloc _).alloc _).alloc _).alloc _).alloc _).alloc _) | (repeat (first | exact hk | refine Kept.alloc ?_ _ | refine Kept.drew ?_ | refine Kept.drewN ?_ _ | refine Kept.set ?_ (by first | (simp; done) | (simp; omega) | omega) _))) : Kept w X)
  replace s : Own X _ _ #[.int .i64 0, .int .i64 0, .int .i64 0, .int .i64 0, .int .i64 2, .int .i64 50, .int .i64 1, .int .i64 30, .int .i64 1, .int .i64 0, .int .i64 1, .int .i64 0, .int .i64 1, .int .i64 0, .int .i64 1, .int .i64 0, .int .i64 1, .int .i64 0, .int .i64 1, .int .i64 0, .int .i64 1, .int .i64 0, .int .i64 1, .int .i64 0, .int .i64 0, .int .i64 0, .int .i64 0, .int .i64 1, .int .i64 0, .int .i64 0, .int .i64 0, .bool false] := eX ▸ ((((((s.set 4 _).set 5 _).set 6 _).set 7 _)).is (by rfl))
  clear eX
  clear fs4 fs5 fs6 fs7 cs4 cs5 cs6 cs7
  have h1 : clampInS awS 100 7 = (50, 0) := by decide +kernel
  go_wp2_with fail
  refine (clampInline_any awS 100 7 _).mono ?_
  rintro e w1 ⟨rfl, hn⟩
  replace hk := hk.trans hn
  replace s := s.kept hn
  clear hn
  have h2 : clampInS zeroS 100 7 = (0, 1300) := by decide +kernel
  go_wp2_with fail
  refine (clampInline_any zeroS 100 7 _).mono ?_
  rintro e w1 ⟨rfl, hn⟩
  replace hk := hk.trans hn
  replace s := s.kept hn
  clear hn
  have h3 : clampS 5 1 3 = 3 := by decide +kernel
  go_wp2_with fail
  refine (clampClamp_any _ _ _ _).mono ?_
  rintro e w1 ⟨rfl, rfl⟩
  have h4 : clampS 5 7 3 = 7 := by decide +kernel
  go_wp2_with fail
  refine (clampClamp_any _ _ _ _).mono ?_
  rintro e w1 ⟨rfl, rfl⟩
  go_wp2_with fail
  refine (num_any _ _).mono ?_
  rintro e w1 ⟨rfl, rfl⟩
  go_wp2_with fail
  refine (num_any _ _).mono ?_
  rintro e w1 ⟨rfl, rfl⟩
  go_wp2
  go_ret
  exact ⟨rfl, hk⟩

end Go.Proofs.Ytpkphohgnelajaa
