/- Layer 17: where a float stands: the program's face, the document's answer. -/
import Derived.Test.YtkonpnaedniceaaPlace
import Derived.Test.YtkonpnaedniceaaRefEnds
namespace Go.Proofs.Ytkonpnaedniceaa
open Go.RowKit Go.Deep
set_option linter.unusedSimpArgs false
set_option linter.unusedVariables false
def zeroE : Exc := ⟨0, 0, 0, 0, 0⟩
def placeB (E : Nat → Exc) (room : Int) (n : Nat) (y side clear si sb : Int) : Bool := mayX room n E && (inB 0 4194304 y && inB 0 4194304 si && inB 0 4194304 sb) && inB 1 2 side && inB 0 3 clear
def placeR (E : Nat → Exc) (room : Int) (n : Nat) (y side clear si sb : Int) : Exc × Int := if placeB E room n y side clear si sb = true then (placeE E room n y side clear si sb, 0) else (zeroE, 1700)
theorem placeR_no {E : Nat → Exc} {room : Int} {n : Nat} {y side clear si sb : Int} (h : placeB E room n y side clear si sb = false) : placeR E room n y side clear si sb = (zeroE, 1700) := if_neg (by simp [h])
theorem placeR_yes {E : Nat → Exc} {room : Int} {n : Nat} {y side clear si sb : Int} (h : placeB E room n y side clear si sb = true) : placeR E room n y side clear si sb = (placeE E room n y side clear si sb, 0) := if_pos h
set_option maxRecDepth 20000 in
set_option maxHeartbeats 4000000 in
theorem placePlace_any (v : Value) (n : Nat) (Z : Nat → Nat → Int) (room y side clear si sb : Int) (w : World) (hv : RV 5 w v n (intC Z)) (hn : n ≤ 4611686018427387904) :
    Calls Try.prog 12 #[v, .int .i64 room, .int .i64 y, .int .i64 side, .int .i64 clear, .agg #[.int .i64 si, .int .i64 sb]] w fun e w' => e = .returned (.tuple #[(placeR (excOf Z) room n y side clear si sb).1.V, .int .i64 (placeR (excOf Z) room n y side clear si sb).2]) ∧ Kept w w' := by
  have HNo := Lib.hid (fun h => (show Ending.returned (.tuple #[.agg #[.int .i64 0, .int .i64 0, .int .i64 0, .int .i64 0, .int .i64 0], .int .i64 1700]) = .returned (.tuple #[(placeR (excOf Z) room n y side clear si sb).1.V, .int .i64 (placeR (excOf Z) room n y side clear si sb).2]) from by rw [placeR_no h]; rfl))
  have hbe : placeB (excOf Z) room n y side clear si sb = (mayX room n (excOf Z) && (inB 0 4194304 y && inB 0 4194304 si && inB 0 4194304 sb) && inB 1 2 side && inB 0 3 clear) := rfl
  have Hbe := Lib.hid hbe
  clear hbe
  have hk : Kept w w := Kept.refl w
  go_enter Try.func12, Try.ntmps12
  go_wp2_with fail
  refine with_boxes2 ?_
  intro X hX s r
  have hsz := hk.size
  replace hk := hk.trans hX
  clear hX
  replace s_l := s.lt
  replace s_0 := s.at 0 _ rfl
  replace s_1 := s.at 1 _ rfl
  refine (bandMay_any v room n Z _ (hv.kept hk) hn).mono ?_
  rintro e w1 ⟨rfl, hn⟩
  replace hk := hk.trans hn
  replace s := s.kept hn
  replace r := r.kept hn
  clear hn
  replace s_l := s.lt
  replace s_0 := s.at 0 _ rfl
  replace s_1 := s.at 1 _ rfl
  rcases false_first1 (mayX room n (excOf Z)) with h | h
  · have Hs := Lib.hid (HNo.out (by rw [Hbe.out, h]; rfl))
    clear HNo Hbe
    go_wp2_with (refine here_store 43 _ _ rfl ?_; refine wpList_store_own rfl 43 _ _ rfl _ _ rfl rfl r (by rfl) (by kernel_rfl) (by rfl) ?_; intro X oX hoX hkX; replace hk := hkX _ hk (by first | omega | (simp; omega)); replace r := oX; replace s := s.same (hoX _ (by first | omega | (simp; omega))); clear oX hoX hkX; replace s_l := s.lt; replace s_0 := s.at 0 _ rfl; replace s_1 := s.at 1 _ rfl)
    exact bodyPost_ret (results_own_tmp 43 _ Try.results12 rfl r Try.underlying43 rfl (by kernel_rfl)) rfl ⟨Hs.out, hk⟩
  go_wp2_with fail
  refine with_boxes1 ?_
  intro X hX q
  have hsz := hk.size
  replace hk := hk.trans hX
  replace s := s.kept hX
  replace r := r.kept hX
  clear hX
  replace s_l := s.lt
  replace s_0 := s.at 0 _ rfl
  replace s_1 := s.at 1 _ rfl
  replace q_l := q.lt
  replace q_0 := q.at 0 _ rfl
  replace q_1 := q.at 1 _ rfl
  replace q_2 := q.at 2 _ rfl
  refine (each3_any _ _ _ _ _ _ _ q_0 q_1 q_2).mono ?_
  rintro e w1 ⟨rfl, rfl⟩
  clear q
  clear q_l q_0 q_1 q_2
  rcases false_first1 (inB 0 4194304 y && inB 0 4194304 si && inB 0 4194304 sb) with h2 | h2
  · have Hs := Lib.hid (HNo.out (by rw [Hbe.out, h, h2]; rfl))
    clear HNo Hbe
    go_wp2_with (refine here_store 43 _ _ rfl ?_; refine wpList_store_own rfl 43 _ _ rfl _ _ rfl rfl r (by rfl) (by kernel_rfl) (by rfl) ?_; intro X oX hoX hkX; replace hk := hkX _ hk (by first | omega | (simp; omega)); replace r := oX; replace s := s.same (hoX _ (by first | omega | (simp; omega))); clear oX hoX hkX; replace s_l := s.lt; replace s_0 := s.at 0 _ rfl; replace s_1 := s.at 1 _ rfl)
    exact bodyPost_ret (results_own_tmp 43 _ Try.results12 rfl r Try.underlying43 rfl (by kernel_rfl)) rfl ⟨Hs.out, hk⟩
  go_wp2_with fail
  refine with_boxes1 ?_
  intro X hX q
  have hsz := hk.size
  replace hk := hk.trans hX
  replace s := s.kept hX
  replace r := r.kept hX
  clear hX
  replace s_l := s.lt
  replace s_0 := s.at 0 _ rfl
  replace s_1 := s.at 1 _ rfl
  replace q_l := q.lt
  replace q_0 := q.at 0 _ rfl
  refine (each1_any _ _ _ _ _ q_0).mono ?_
  rintro e w1 ⟨rfl, rfl⟩
  clear q
  clear q_l q_0
  rcases false_first1 (inB 1 2 side) with h3 | h3
  · have Hs := Lib.hid (HNo.out (by rw [Hbe.out, h, h2, h3]; rfl))
    clear HNo Hbe
    go_wp2_with (refine here_store 43 _ _ rfl ?_; refine wpList_store_own rfl 43 _ _ rfl _ _ rfl rfl r (by rfl) (by kernel_rfl) (by rfl) ?_; intro X oX hoX hkX; replace hk := hkX _ hk (by first | omega | (simp; omega)); replace r := oX; replace s := s.same (hoX _ (by first | omega | (simp; omega))); clear oX hoX hkX; replace s_l := s.lt; replace s_0 := s.at 0 _ rfl; replace s_1 := s.at 1 _ rfl)
    exact bodyPost_ret (results_own_tmp 43 _ Try.results12 rfl r Try.underlying43 rfl (by kernel_rfl)) rfl ⟨Hs.out, hk⟩
  go_wp2_with fail
  refine with_boxes1 ?_
  intro X hX q
  have hsz := hk.size
  replace hk := hk.trans hX
  replace s := s.kept hX
  replace r := r.kept hX
  clear hX
  replace s_l := s.lt
  replace s_0 := s.at 0 _ rfl
  replace s_1 := s.at 1 _ rfl
  replace q_l := q.lt
  replace q_0 := q.at 0 _ rfl
  refine (each1_any _ _ _ _ _ q_0).mono ?_
  rintro e w1 ⟨rfl, rfl⟩
  clear q
  clear q_l q_0
  rcases false_first1 (inB 0 3 clear) with h4 | h4
  · have Hs := Lib.hid (HNo.out (by rw [Hbe.out, h, h2, h3, h4]; rfl))
    clear HNo Hbe
    go_wp2_with (refine here_store 43 _ _ rfl ?_; refine wpList_store_own rfl 43 _ _ rfl _ _ rfl rfl r (by rfl) (by kernel_rfl) (by rfl) ?_; intro X oX hoX hkX; replace hk := hkX _ hk (by first | omega | (simp; omega)); replace r := oX; replace s := s.same (hoX _ (by first | omega | (simp; omega))); clear oX hoX hkX; replace s_l := s.lt; replace s_0 := s.at 0 _ rfl; replace s_1 := s.at 1 _ rfl)
    exact bodyPost_ret (results_own_tmp 43 _ Try.results12 rfl r Try.underlying43 rfl (by kernel_rfl)) rfl ⟨Hs.out, hk⟩
  have hyes := placeR_yes (E := excOf Z) (room := room) (n := n) (y := y) (side := side) (clear := clear) (si := si) (sb := sb) (by rw [Hbe.out, h, h2, h3, h4]; rfl)
  have Hs := Lib.hid hyes
  have hb := h2
  simp only [Bool.and_eq_true, inB_true] at hb
  have HP := Lib.hid (fun wx (hx : RV 5 wx v n (intC Z)) => besidePlace_any v n Z room y side clear si sb wx hx h (by omega) (by omega) (by omega))
  clear hyes HNo Hbe hb
  obtain ⟨x, hx⟩ : ∃ x, placeE (excOf Z) room n y side clear si sb = x := ⟨_, rfl⟩
  rw [hx] at HP Hs
  clear hx
  go_wp2_with fail
  refine (HP.out _ (hv.kept hk)).mono ?_
  rintro e w1 ⟨rfl, hn⟩
  replace hk := hk.trans hn
  replace s := s.kept hn
  replace r := r.kept hn
  clear hn
  replace s_l := s.lt
  replace s_0 := s.at 0 _ rfl
  replace s_1 := s.at 1 _ rfl
  clear HP h h2 h3 h4
  go_wp2_with (refine here_store 43 _ _ rfl ?_; refine wpList_store_own rfl 43 _ _ rfl _ _ rfl rfl r (by rfl) (by kernel_rfl) (by rfl) ?_; intro X oX hoX hkX; replace hk := hkX _ hk (by first | omega | (simp; omega)); replace r := oX; replace s := s.same (hoX _ (by first | omega | (simp; omega))); clear oX hoX hkX; replace s_l := s.lt; replace s_0 := s.at 0 _ rfl; replace s_1 := s.at 1 _ rfl)
  exact bodyPost_ret (results_own_tmp 43 _ Try.results12 rfl r Try.underlying43 rfl (by kernel_rfl)) rfl ⟨by rw [Hs.out]; rfl, hk⟩
end Go.Proofs.Ytkonpnaedniceaa
