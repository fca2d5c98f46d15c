/- Layer 13: Law13Forms. -/
import Derived.Test.YtpkphohgnelajaaAwake13
import Derived.Test.YtpkphohgnelajaaMinMax
import Derived.Test.YtpkphohgnelajaaOwnIf
import Derived.Test.YtpkphohgnelajaaMask
namespace Go.Proofs.Ytpkphohgnelajaa
open Go.RowKit
set_option linter.unusedSimpArgs false
set_option linter.unusedVariables false
set_option maxHeartbeats 4000000
set_option maxRecDepth 20000
def badS : Sty := ⟨⟨0, 0⟩, ⟨0, 0⟩, ⟨0, 0⟩, ⟨0, 0⟩, ⟨1, 0⟩, ⟨1, 0⟩, ⟨1, 0⟩, ⟨1, 0⟩, ⟨1, 0⟩, ⟨1, 0⟩, ⟨1, 0⟩, ⟨1, 0⟩, ⟨0, 0⟩, 0, 1, 0, 0, 0, false⟩
theorem forms_room {r y : Int} (h : r < 0 ∨ 4194304 < r) : clampInS newS r y = (0, 1300) := if_neg (by rw [inB_false.2 h]; simp)
theorem forms_most {r y : Int} (h : 1073741824 < y) : clampInS newS r y = (0, 1300) := if_neg (by rw [mayB_false.2 (.inr h)]; simp)
theorem clampForms_walk (which x : Int) (w : World) :
    Calls Try.prog 5 #[.int .i64 which, .int .i64 x] w fun e w' => e = .returned (.bool true) ∧ Kept w w' := by
  obtain ⟨q, hq, q0, q1⟩ := masked which 2 3 rfl (by decide)
  obtain ⟨d, hd, d0, d1⟩ := masked x 10 1023 rfl (by decide)
  have hc2 : clampInS newS 4194304 (-1073741824) = (0, 0) := by decide +kernel
  rcases (by omega : q = 0 ∨ q = 1 ∨ q = 2 ∨ q = 3) with rfl | rfl | rfl | rfl
  · have hc : clampInS badS 5 5 = (0, 1300) := by decide +kernel
    have hk : Kept w w := Kept.refl w
    go_enter Try.func5, Try.ntmps5
    go_wp2_with fail
    refine (awake13_any _).mono ?_
    rintro e w1 ⟨rfl, hn⟩
    replace hk := hk.trans hn
    clear hn
    go_wp2_with fail
    refine (newStyle_lit _).mono ?_
    rintro e w1 ⟨rfl, hn⟩
    replace hk := hk.trans hn
    clear hn
    have tok1 : True := trivial
    have tok2 : True := trivial
    have tok3 : True := trivial
    have tok4 : True := trivial
    have tok5 : True := trivial
    have tok6 : True := trivial
    go_wp2_with (first | (refine here_store 26 _ _ rfl ?_; have _t := tok1; refine wpList_store_own rfl 26 _ _ rfl _ _ rfl rfl (Own.new _ _ _) (by rfl) (by kernel_rfl) (by rfl) ?_; clear _t tok1; intro X s hoX hkX; have hsz := hk.size; replace hk := hkX _ (hk.alloc _) (by first | omega | (simp; omega)); clear hoX hkX; have s_l := s.lt) | (refine here_load 26 _ rfl ?_; have _t := tok2; refine wpList_load_own rfl 26 _ rfl _ rfl s _ Try.underlying26 rfl (by kernel_rfl) ?_; clear _t tok2) | (refine here_store 26 _ _ rfl ?_; have _t := tok3; refine wpList_store_own rfl 26 _ _ rfl _ _ rfl rfl (Own.new _ _ _) (by rfl) (by kernel_rfl) (by rfl) ?_; clear _t tok3; intro X2 b hoX hkX; have hsz2 := hk.size; replace hk := hkX _ (hk.alloc _) (by first | omega | (simp; omega)); replace s := (s.alloc _).same (hoX _ (by first | omega | (simp; omega))); clear hoX hkX; have cb4 := b.at 4 _ rfl; have fb4 := b.free 4; have cb5 := b.at 5 _ rfl; have fb5 := b.free 5) | (refine here_load 26 _ rfl ?_; have _t := tok4; refine wpList_load_own rfl 26 _ rfl _ rfl ((b.set 4 _).set 5 _) _ Try.underlying26 rfl (by kernel_rfl) ?_; clear _t tok4) | (refine here_store 26 _ _ rfl ?_; have _t := tok5; refine wpList_store_own rfl 26 _ _ rfl _ _ rfl rfl ((s.other (by first | omega | (simp; omega)) _).other (by first | omega | (simp; omega)) _) (by rfl) (by kernel_rfl) (by rfl) ?_; clear _t tok5; intro X3 s3 hoX hkX; replace hk := hkX _ ((hk.set (by first | omega | (simp; omega)) _).set (by first | omega | (simp; omega)) _) (by first | omega | (simp; omega)); clear hoX hkX) | (refine here_load 26 _ rfl ?_; have _t := tok6; refine wpList_load_own rfl 26 _ rfl _ rfl s3 _ Try.underlying26 rfl (by kernel_rfl) ?_; clear _t tok6))
    clear cb4 fb4 cb5 fb5
    go_wp2_with fail
    refine (clampInline_any badS 5 5 _).mono ?_
    rintro e w1 ⟨rfl, hn⟩
    replace hk := hk.trans hn
    clear hn
    go_wp2_with fail
    refine (newStyle_lit _).mono ?_
    rintro e w1 ⟨rfl, hn⟩
    replace hk := hk.trans hn
    clear hn
    go_wp2_with fail
    refine (clampInline_any newS 4194304 (-1073741824) _).mono ?_
    rintro e w1 ⟨rfl, hn⟩
    replace hk := hk.trans hn
    clear hn
    go_wp2_with fail
    refine (num_any _ _).mono ?_
    rintro e w1 ⟨rfl, rfl⟩
    go_wp2_with fail
    refine (num_any _ _).mono ?_
    rintro e w1 ⟨rfl, rfl⟩
    go_wp2
    go_ret
    exact ⟨rfl, hk⟩
  · have hc := forms_room (r := -(1 + d)) (y := 5) (.inl (by omega))
    have hk : Kept w w := Kept.refl w
    go_enter Try.func5, Try.ntmps5
    go_wp2_with fail
    refine (awake13_any _).mono ?_
    rintro e w1 ⟨rfl, hn⟩
    replace hk := hk.trans hn
    clear hn
    go_wp2_with fail
    refine (newStyle_lit _).mono ?_
    rintro e w1 ⟨rfl, hn⟩
    replace hk := hk.trans hn
    clear hn
    have tok1 : True := trivial
    have tok2 : True := trivial
    have tok3 : True := trivial
    have tok4 : True := trivial
    go_wp2_with (first | (refine here_store 26 _ _ rfl ?_; have _t := tok1; refine wpList_store_own rfl 26 _ _ rfl _ _ rfl rfl (Own.new _ _ _) (by rfl) (by kernel_rfl) (by rfl) ?_; clear _t tok1; intro X s hoX hkX; have hsz := hk.size; replace hk := hkX _ (hk.alloc _) (by first | omega | (simp; omega)); clear hoX hkX; have s_l := s.lt) | (refine here_load 26 _ rfl ?_; have _t := tok2; refine wpList_load_own rfl 26 _ rfl _ rfl s _ Try.underlying26 rfl (by kernel_rfl) ?_; clear _t tok2) | (refine here_store 26 _ _ rfl ?_; have _t := tok3; refine wpList_store_own rfl 26 _ _ rfl _ _ rfl rfl (Own.new _ _ _) (by rfl) (by kernel_rfl) (by rfl) ?_; clear _t tok3; intro X2 b hoX hkX; have hsz2 := hk.size; replace hk := hkX _ (hk.alloc _) (by first | omega | (simp; omega)); replace s := (s.alloc _).same (hoX _ (by first | omega | (simp; omega))); clear hoX hkX; have cb4 := b.at 4 _ rfl; have fb4 := b.free 4; have cb5 := b.at 5 _ rfl; have fb5 := b.free 5) | (refine here_load 26 _ rfl ?_; have _t := tok4; refine wpList_load_own rfl 26 _ rfl _ rfl ((s.other (by first | omega | (simp; omega)) _).other (by first | omega | (simp; omega)) _) _ Try.underlying26 rfl (by kernel_rfl) ?_; clear _t tok4))
    go_wp2_with fail
    refine with_eq ?_
    intro X eX
    have hsz := hk.size
    replace hk := (eX ▸ (by first | ((repeat (first | with_reducible exact hk | with_reducible refine Kept.alloc ?_ _ | with_reducible refine Kept.drew ?_ | with_reducible refine Kept.drewN ?_ _ | with_reducible refine Kept.set ?_ (by first | (simp; done) | (simp; omega) | omega) _)); done) | exact hk | exact (hk.alloc _) | exact ((hk.alloc _).alloc _) | exact (((hk.alloc _).alloc _).alloc _) | exact ((((hk.alloc _).alloc _).alloc _).alloc _) | exact (((((hk.alloc _).alloc _).alloc _).alloc _).alloc _) | exact ((((((hk.alloc _).alloc _).alloc _).alloc _).alloc _).alloc _) | (repeat (first | exact hk | refine Kept.alloc ?_ _ | refine Kept.drew ?_ | refine Kept.drewN ?_ _ | refine Kept.set ?_ (by first | (simp; done) | (simp; omega) | omega) _))) : Kept w X)
    replace s := s.same (X := X) (by rw [eX]; repeat (first | with_reducible rfl | with_reducible refine (Below.heap_setCell _ _ _ _ (by first | omega | (simp; done) | (simp; omega))).trans ?_ | with_reducible refine (heap_drew_ _ _).trans ?_ | with_reducible refine (heap_drewN_ _ _ _).trans ?_))
    replace b : Own X _ _ #[.int .i64 0, .int .i64 0, .int .i64 0, .int .i64 0, .int .i64 0, .int .i64 0, .int .i64 0, .int .i64 0, .int .i64 1, .int .i64 0, .int .i64 1, .int .i64 0, .int .i64 1, .int .i64 0, .int .i64 1, .int .i64 0, .int .i64 1, .int .i64 0, .int .i64 1, .int .i64 0, .int .i64 1, .int .i64 0, .int .i64 1, .int .i64 0, .int .i64 0, .int .i64 0, .int .i64 0, .int .i64 1, .int .i64 0, .int .i64 0, .int .i64 0, .bool false] := eX ▸ ((((b.set 4 _).set 5 _)).is (by rfl))
    clear eX
    clear cb4 fb4 cb5 fb5
    clear b
    go_wp2_with fail
    refine (clampInline_any newS (-(1 + d)) 5 _).mono ?_
    rintro e w1 ⟨rfl, hn⟩
    replace hk := hk.trans hn
    replace s := s.kept hn
    clear hn
    go_wp2_with fail
    refine (newStyle_lit _).mono ?_
    rintro e w1 ⟨rfl, hn⟩
    replace hk := hk.trans hn
    replace s := s.kept hn
    clear hn
    go_wp2_with fail
    refine (clampInline_any newS 4194304 (-1073741824) _).mono ?_
    rintro e w1 ⟨rfl, hn⟩
    replace hk := hk.trans hn
    replace s := s.kept hn
    clear hn
    go_wp2_with fail
    refine (num_any _ _).mono ?_
    rintro e w1 ⟨rfl, rfl⟩
    go_wp2_with fail
    refine (num_any _ _).mono ?_
    rintro e w1 ⟨rfl, rfl⟩
    go_wp2
    go_ret
    exact ⟨rfl, hk⟩
  · have hc := forms_room (r := 4194304 + (1 + d)) (y := 5) (.inr (by omega))
    have hk : Kept w w := Kept.refl w
    go_enter Try.func5, Try.ntmps5
    go_wp2_with fail
    refine (awake13_any _).mono ?_
    rintro e w1 ⟨rfl, hn⟩
    replace hk := hk.trans hn
    clear hn
    go_wp2_with fail
    refine (newStyle_lit _).mono ?_
    rintro e w1 ⟨rfl, hn⟩
    replace hk := hk.trans hn
    clear hn
    have tok1 : True := trivial
    have tok2 : True := trivial
    have tok3 : True := trivial
    have tok4 : True := trivial
    go_wp2_with (first | (refine here_store 26 _ _ rfl ?_; have _t := tok1; refine wpList_store_own rfl 26 _ _ rfl _ _ rfl rfl (Own.new _ _ _) (by rfl) (by kernel_rfl) (by rfl) ?_; clear _t tok1; intro X s hoX hkX; have hsz := hk.size; replace hk := hkX _ (hk.alloc _) (by first | omega | (simp; omega)); clear hoX hkX; have s_l := s.lt) | (refine here_load 26 _ rfl ?_; have _t := tok2; refine wpList_load_own rfl 26 _ rfl _ rfl s _ Try.underlying26 rfl (by kernel_rfl) ?_; clear _t tok2) | (refine here_store 26 _ _ rfl ?_; have _t := tok3; refine wpList_store_own rfl 26 _ _ rfl _ _ rfl rfl (Own.new _ _ _) (by rfl) (by kernel_rfl) (by rfl) ?_; clear _t tok3; intro X2 b hoX hkX; have hsz2 := hk.size; replace hk := hkX _ (hk.alloc _) (by first | omega | (simp; omega)); replace s := (s.alloc _).same (hoX _ (by first | omega | (simp; omega))); clear hoX hkX; have cb4 := b.at 4 _ rfl; have fb4 := b.free 4; have cb5 := b.at 5 _ rfl; have fb5 := b.free 5) | (refine here_load 26 _ rfl ?_; have _t := tok4; refine wpList_load_own rfl 26 _ rfl _ rfl ((s.other (by first | omega | (simp; omega)) _).other (by first | omega | (simp; omega)) _) _ Try.underlying26 rfl (by kernel_rfl) ?_; clear _t tok4))
    go_wp2_with fail
    refine with_eq ?_
    intro X eX
    have hsz := hk.size
    replace hk := (eX ▸ (by first | ((repeat (first | with_reducible exact hk | with_reducible refine Kept.alloc ?_ _ | with_reducible refine Kept.drew ?_ | with_reducible refine Kept.drewN ?_ _ | with_reducible refine Kept.set ?_ (by first | (simp; done) | (simp; omega) | omega) _)); done) | exact hk | exact (hk.alloc _) | exact ((hk.alloc _).alloc _) | exact (((hk.alloc _).alloc _).alloc _) | exact ((((hk.alloc _).alloc _).alloc _).alloc _) | exact (((((hk.alloc _).alloc _).alloc _).alloc _).alloc _) | exact ((((((hk.alloc _).alloc _).alloc _).alloc _).alloc _).alloc _) | (repeat (first | exact hk | refine Kept.alloc ?_ _ | refine Kept.drew ?_ | refine Kept.drewN ?_ _ | refine Kept.set ?_ (by first | (simp; done) | (simp; omega) | omega) _))) : Kept w X)
    replace s := s.same (X := X) (by rw [eX]; repeat (first | with_reducible rfl | with_reducible refine (Below.heap_setCell _ _ _ _ (by first | omega | (simp; done) | (simp; omega))).trans ?_ | with_reducible refine (heap_drew_ _ _).trans ?_ | with_reducible refine (heap_drewN_ _ _ _).trans ?_))
    replace b : Own X _ _ #[.int .i64 0, .int .i64 0, .int .i64 0, .int .i64 0, .int .i64 0, .int .i64 0, .int .i64 0, .int .i64 0, .int .i64 1, .int .i64 0, .int .i64 1, .int .i64 0, .int .i64 1, .int .i64 0, .int .i64 1, .int .i64 0, .int .i64 1, .int .i64 0, .int .i64 1, .int .i64 0, .int .i64 1, .int .i64 0, .int .i64 1, .int .i64 0, .int .i64 0, .int .i64 0, .int .i64 0, .int .i64 1, .int .i64 0, .int .i64 0, .int .i64 0, .bool false] := eX ▸ ((((b.set 4 _).set 5 _)).is (by rfl))
    clear eX
    clear cb4 fb4 cb5 fb5
    clear b
    go_wp2_with fail
    refine (clampInline_any newS (4194304 + (1 + d)) 5 _).mono ?_
    rintro e w1 ⟨rfl, hn⟩
    replace hk := hk.trans hn
    replace s := s.kept hn
    clear hn
    go_wp2_with fail
    refine (newStyle_lit _).mono ?_
    rintro e w1 ⟨rfl, hn⟩
    replace hk := hk.trans hn
    replace s := s.kept hn
    clear hn
    go_wp2_with fail
    refine (clampInline_any newS 4194304 (-1073741824) _).mono ?_
    rintro e w1 ⟨rfl, hn⟩
    replace hk := hk.trans hn
    replace s := s.kept hn
    clear hn
    go_wp2_with fail
    refine (num_any _ _).mono ?_
    rintro e w1 ⟨rfl, rfl⟩
    go_wp2_with fail
    refine (num_any _ _).mono ?_
    rintro e w1 ⟨rfl, rfl⟩
    go_wp2
    go_ret
    exact ⟨rfl, hk⟩
  · have hc := forms_most (r := 5) (y := 1073741824 + (1 + d)) (by omega)
    have hk : Kept w w := Kept.refl w
    go_enter Try.func5, Try.ntmps5
    go_wp2_with fail
    refine (awake13_any _).mono ?_
    rintro e w1 ⟨rfl, hn⟩
    replace hk := hk.trans hn
    clear hn
    go_wp2_with fail
    refine (newStyle_lit _).mono ?_
    rintro e w1 ⟨rfl, hn⟩
    replace hk := hk.trans hn
    clear hn
    have tok1 : True := trivial
    have tok2 : True := trivial
    have tok3 : True := trivial
    have tok4 : True := trivial
    go_wp2_with (first | (refine here_store 26 _ _ rfl ?_; have _t := tok1; refine wpList_store_own rfl 26 _ _ rfl _ _ rfl rfl (Own.new _ _ _) (by rfl) (by kernel_rfl) (by rfl) ?_; clear _t tok1; intro X s hoX hkX; have hsz := hk.size; replace hk := hkX _ (hk.alloc _) (by first | omega | (simp; omega)); clear hoX hkX; have s_l := s.lt) | (refine here_load 26 _ rfl ?_; have _t := tok2; refine wpList_load_own rfl 26 _ rfl _ rfl s _ Try.underlying26 rfl (by kernel_rfl) ?_; clear _t tok2) | (refine here_store 26 _ _ rfl ?_; have _t := tok3; refine wpList_store_own rfl 26 _ _ rfl _ _ rfl rfl (Own.new _ _ _) (by rfl) (by kernel_rfl) (by rfl) ?_; clear _t tok3; intro X2 b hoX hkX; have hsz2 := hk.size; replace hk := hkX _ (hk.alloc _) (by first | omega | (simp; omega)); replace s := (s.alloc _).same (hoX _ (by first | omega | (simp; omega))); clear hoX hkX; have cb4 := b.at 4 _ rfl; have fb4 := b.free 4; have cb5 := b.at 5 _ rfl; have fb5 := b.free 5) | (refine here_load 26 _ rfl ?_; have _t := tok4; refine wpList_load_own rfl 26 _ rfl _ rfl ((s.other (by first | omega | (simp; omega)) _).other (by first | omega | (simp; omega)) _) _ Try.underlying26 rfl (by kernel_rfl) ?_; clear _t tok4))
    go_wp2_with fail
    refine with_eq ?_
    intro X eX
    have hsz := hk.size
    replace hk := (eX ▸ (by first | ((repeat (first | with_reducible exact hk | with_reducible refine Kept.alloc ?_ _ | with_reducible refine Kept.drew ?_ | with_reducible refine Kept.drewN ?_ _ | with_reducible refine Kept.set ?_ (by first | (simp; done) | (simp; omega) | omega) _)); done) | exact hk | exact (hk.alloc _) | exact ((hk.alloc _).alloc _) | exact (((hk.alloc _).alloc _).alloc _) | exact ((((hk.alloc _).alloc _).alloc _).alloc _) | exact (((((hk.alloc _).alloc _).alloc _).alloc _).alloc _) | exact ((((((hk.alloc _).alloc _).alloc _).alloc _).alloc _).alloc _) | (repeat (first | exact hk | refine Kept.alloc ?_ _ | refine Kept.drew ?_ | refine Kept.drewN ?_ _ | refine Kept.set ?_ (by first | (simp; done) | (simp; omega) | omega) _))) : Kept w X)
    replace s := s.same (X := X) (by rw [eX]; repeat (first | with_reducible rfl | with_reducible refine (Below.heap_setCell _ _ _ _ (by first | omega | (simp; done) | (simp; omega))).trans ?_ | with_reducible refine (heap_drew_ _ _).trans ?_ | with_reducible refine (heap_drewN_ _ _ _).trans ?_))
    replace b : Own X _ _ #[.int .i64 0, .int .i64 0, .int .i64 0, .int .i64 0, .int .i64 0, .int .i64 0, .int .i64 0, .int .i64 0, .int .i64 1, .int .i64 0, .int .i64 1, .int .i64 0, .int .i64 1, .int .i64 0, .int .i64 1, .int .i64 0, .int .i64 1, .int .i64 0, .int .i64 1, .int .i64 0, .int .i64 1, .int .i64 0, .int .i64 1, .int .i64 0, .int .i64 0, .int .i64 0, .int .i64 0, .int .i64 1, .int .i64 0, .int .i64 0, .int .i64 0, .bool false] := eX ▸ ((((b.set 4 _).set 5 _)).is (by rfl))
    clear eX
    clear cb4 fb4 cb5 fb5
    clear b
    go_wp2_with fail
    refine (clampInline_any newS 5 (1073741824 + (1 + d)) _).mono ?_
    rintro e w1 ⟨rfl, hn⟩
    replace hk := hk.trans hn
    replace s := s.kept hn
    clear hn
    go_wp2_with fail
    refine (newStyle_lit _).mono ?_
    rintro e w1 ⟨rfl, hn⟩
    replace hk := hk.trans hn
    replace s := s.kept hn
    clear hn
    go_wp2_with fail
    refine (clampInline_any newS 4194304 (-1073741824) _).mono ?_
    rintro e w1 ⟨rfl, hn⟩
    replace hk := hk.trans hn
    replace s := s.kept hn
    clear hn
    go_wp2_with fail
    refine (num_any _ _).mono ?_
    rintro e w1 ⟨rfl, rfl⟩
    go_wp2_with fail
    refine (num_any _ _).mono ?_
    rintro e w1 ⟨rfl, rfl⟩
    go_wp2
    go_ret
    exact ⟨rfl, hk⟩
end Go.Proofs.Ytpkphohgnelajaa
