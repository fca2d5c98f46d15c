/- Layer 23: pieces, sizes, modes that may not be. -/
import Derived.Test.YtpeoadnnemlphaaDoorLaw23All
import Derived.Test.YtpeoadnnemlphaaDoorMask
namespace Go.Proofs.YtpeoadnnemlphaaDoor
open Go.RowKit Go.Deep
set_option linter.unusedSimpArgs false
set_option linter.unusedVariables false
def fL (l : List (List Int)) (i j : Nat) : Int := (l.getD i []).getD j 0
theorem allF_one {Z : Nat → Nat → Int} {n : Nat} (k : Nat) (h : k < n) (hb : fragB (Z k) = false) : mayF n Z = false := by unfold mayF; rw [allF_no h hb, Bool.and_false]
theorem many23 {M : Nat} (h : 4096 < M) (Z : Nat → Nat → Int) : mayF M Z = false := by unfold mayF; rw [decide_eq_false (by omega)]; rfl
theorem pieces_may {wm di ia ib : Int} {n : Nat} {Z : Nat → Nat → Int} (h : mayF n Z = false) : piecesB wm di ia ib n Z = false := by unfold piecesB; rw [h]; rfl
theorem pieces_mode {wm di ia ib : Int} {n : Nat} {Z : Nat → Nat → Int} (h : modeMayB wm di = false) : piecesB wm di ia ib n Z = false := by unfold piecesB; rw [h]; simp
theorem pieces_size {wm di ia ib : Int} {n : Nat} {Z : Nat → Nat → Int} (h : sizedB ia ib = false) : piecesB wm di ia ib n Z = false := by unfold piecesB; rw [h]; simp
set_option maxRecDepth 20000 in
set_option maxHeartbeats 4000000 in
theorem fragForms_0 (c x d : Int) (M : Nat) (hM : Int.toNat 4097 = M) (hi : (IntKind.u64.wrap c).tmod 10 = 0) (q : Int) (hq : bits .and .i64 x 1023 = q) (hqd : 1 + q = d) (d1 : 1 ≤ d) (d2 : d ≤ 1024) (w : World) (ht : Tab w) :
    Calls Tryd.prog 9 #[.int .i64 c, .int .i64 x] w fun e w' => e = .returned (.bool true) ∧ Kept w w' := by
  have hmk := makeFrags 4097 M (by decide) (by decide) hM
  have hM2 : M = 4097 := by omega
  have FB := (show fragB (fL [[-d, 0, 0, 0, 0, 0]] 0) = false from by show (inB 0 31 (-d) && inB (-1) 80 0 && sizedB 0 0 && mayB 0 && mayB 0) = false; rw [show inB 0 31 (-d) = false from inB_false.2 (by omega)]; rfl)
  have Hb := Lib.hid (show piecesB 0 0 9 9 2 (fL [[0, 0, 0, 0, 0, 0], [-d, 0, 0, 0, 0, 0]]) = false from pieces_may (allF_one 1 (by decide) FB))
  have Hf := Lib.hid (show mayF 1 (fL [[-d, 0, 0, 0, 0, 0]]) = false from allF_one 0 (by decide) FB)
  have Hm := Lib.hid (show piecesB 0 0 0 0 M (fun _ _ => 0) = false from pieces_may (many23 (by omega) _))
  have HM := Lib.hid hM2
  clear FB hM hM2
  have hk : Kept w w := Kept.refl w
  go_enter Tryd.func9, Tryd.ntmps9
  go_wp2_with fail
  refine (awake23_any _ (ht.kept hk)).mono ?_
  rintro e w1 ⟨rfl, hn⟩
  replace hk := hk.trans hn
  clear hn
  go_wp2_with fail
  refine with_boxes4 ?_
  intro X hX m i f a
  have hsz := hk.size
  replace hk := hk.trans hX
  clear hX
  replace m_l := m.lt
  replace m_0 := m.at 0 _ rfl
  replace m_1 := m.at 1 _ rfl
  replace i_l := i.lt
  replace i_0 := i.at 0 _ rfl
  replace i_1 := i.at 1 _ rfl
  replace f_l := f.lt
  replace f_0 := f.at 0 _ rfl
  replace f_1 := f.at 1 _ rfl
  replace f_2 := f.at 2 _ rfl
  replace f_3 := f.at 3 _ rfl
  replace f_4 := f.at 4 _ rfl
  replace f_5 := f.at 5 _ rfl
  refine (pieces_is_no _ _ _ _ _ 2 _ _ (rv_lit a 6 2 (by decide) (intC (fL [[0, 0, 0, 0, 0, 0], [-d, 0, 0, 0, 0, 0]])) rfl) (by decide) (ht.kept hk) Hb.out).mono ?_
  rintro e w1 ⟨o1, c1, rfl, hn⟩
  replace hk := hk.trans hn
  replace m := m.kept hn
  replace i := i.kept hn
  replace f := f.kept hn
  replace a := a.kept hn
  clear hn
  replace m_l := m.lt
  replace m_0 := m.at 0 _ rfl
  replace m_1 := m.at 1 _ rfl
  replace i_l := i.lt
  replace i_0 := i.at 0 _ rfl
  replace i_1 := i.at 1 _ rfl
  replace f_l := f.lt
  replace f_0 := f.at 0 _ rfl
  replace f_1 := f.at 1 _ rfl
  replace f_2 := f.at 2 _ rfl
  replace f_3 := f.at 3 _ rfl
  replace f_4 := f.at 4 _ rfl
  replace f_5 := f.at 5 _ rfl
  clear a
  go_wp2_with fail
  refine with_boxes1 ?_
  intro X hX b
  have hsz := hk.size
  replace hk := hk.trans hX
  replace m := m.kept hX
  replace i := i.kept hX
  replace f := f.kept hX
  clear hX
  replace m_l := m.lt
  replace m_0 := m.at 0 _ rfl
  replace m_1 := m.at 1 _ rfl
  replace i_l := i.lt
  replace i_0 := i.at 0 _ rfl
  replace i_1 := i.at 1 _ rfl
  replace f_l := f.lt
  replace f_0 := f.at 0 _ rfl
  replace f_1 := f.at 1 _ rfl
  replace f_2 := f.at 2 _ rfl
  replace f_3 := f.at 3 _ rfl
  replace f_4 := f.at 4 _ rfl
  replace f_5 := f.at 5 _ rfl
  refine (pieces_is_no _ _ _ _ _ M _ _ (madeFrags b (by have := HM.out; omega)) (by have := HM.out; omega) (ht.kept hk) Hm.out).mono ?_
  rintro e w1 ⟨o2, c2, rfl, hn⟩
  replace hk := hk.trans hn
  replace m := m.kept hn
  replace i := i.kept hn
  replace f := f.kept hn
  replace b := b.kept hn
  clear hn
  replace m_l := m.lt
  replace m_0 := m.at 0 _ rfl
  replace m_1 := m.at 1 _ rfl
  replace i_l := i.lt
  replace i_0 := i.at 0 _ rfl
  replace i_1 := i.at 1 _ rfl
  replace f_l := f.lt
  replace f_0 := f.at 0 _ rfl
  replace f_1 := f.at 1 _ rfl
  replace f_2 := f.at 2 _ rfl
  replace f_3 := f.at 3 _ rfl
  replace f_4 := f.at 4 _ rfl
  replace f_5 := f.at 5 _ rfl
  clear b
  go_wp2_with fail
  refine (num_any _ _).mono ?_
  rintro e w1 ⟨rfl, rfl⟩
  go_wp2_with fail
  refine with_boxes1 ?_
  intro X hX e
  have hsz := hk.size
  replace hk := hk.trans hX
  replace m := m.kept hX
  replace i := i.kept hX
  replace f := f.kept hX
  clear hX
  replace m_l := m.lt
  replace m_0 := m.at 0 _ rfl
  replace m_1 := m.at 1 _ rfl
  replace i_l := i.lt
  replace i_0 := i.at 0 _ rfl
  replace i_1 := i.at 1 _ rfl
  replace f_l := f.lt
  replace f_0 := f.at 0 _ rfl
  replace f_1 := f.at 1 _ rfl
  replace f_2 := f.at 2 _ rfl
  replace f_3 := f.at 3 _ rfl
  replace f_4 := f.at 4 _ rfl
  replace f_5 := f.at 5 _ rfl
  refine (fragMay_is _ 1 _ false _ (rv_lit e 6 1 (by decide) (intC (fL [[-d, 0, 0, 0, 0, 0]])) rfl) (by decide) Hf.out).mono ?_
  rintro e w1 ⟨rfl, hn⟩
  replace hk := hk.trans hn
  replace m := m.kept hn
  replace i := i.kept hn
  replace f := f.kept hn
  replace e := e.kept hn
  clear hn
  replace m_l := m.lt
  replace m_0 := m.at 0 _ rfl
  replace m_1 := m.at 1 _ rfl
  replace i_l := i.lt
  replace i_0 := i.at 0 _ rfl
  replace i_1 := i.at 1 _ rfl
  replace f_l := f.lt
  replace f_0 := f.at 0 _ rfl
  replace f_1 := f.at 1 _ rfl
  replace f_2 := f.at 2 _ rfl
  replace f_3 := f.at 3 _ rfl
  replace f_4 := f.at 4 _ rfl
  replace f_5 := f.at 5 _ rfl
  go_wp2_with fail
  refine (num_any _ _).mono ?_
  rintro e w1 ⟨rfl, rfl⟩
  go_wp2
  go_ret
  exact ⟨rfl, hk⟩
set_option maxRecDepth 20000 in
set_option maxHeartbeats 4000000 in
theorem fragForms_1 (c x d : Int) (M : Nat) (hM : Int.toNat 4097 = M) (hi : (IntKind.u64.wrap c).tmod 10 = 1) (q : Int) (hq : bits .and .i64 x 1023 = q) (hqd : 1 + q = d) (d1 : 1 ≤ d) (d2 : d ≤ 1024) (w : World) (ht : Tab w) :
    Calls Tryd.prog 9 #[.int .i64 c, .int .i64 x] w fun e w' => e = .returned (.bool true) ∧ Kept w w' := by
  have hmk := makeFrags 4097 M (by decide) (by decide) hM
  have hM2 : M = 4097 := by omega
  have FB := (show fragB (fL [[31 + d, 0, 0, 0, 0, 0]] 0) = false from by show (inB 0 31 (31 + d) && inB (-1) 80 0 && sizedB 0 0 && mayB 0 && mayB 0) = false; rw [show inB 0 31 (31 + d) = false from inB_false.2 (by omega)]; rfl)
  have Hb := Lib.hid (show piecesB 0 0 9 9 2 (fL [[0, 0, 0, 0, 0, 0], [31 + d, 0, 0, 0, 0, 0]]) = false from pieces_may (allF_one 1 (by decide) FB))
  have Hf := Lib.hid (show mayF 1 (fL [[31 + d, 0, 0, 0, 0, 0]]) = false from allF_one 0 (by decide) FB)
  have Hm := Lib.hid (show piecesB 0 0 0 0 M (fun _ _ => 0) = false from pieces_may (many23 (by omega) _))
  have HM := Lib.hid hM2
  clear FB hM hM2
  have hk : Kept w w := Kept.refl w
  go_enter Tryd.func9, Tryd.ntmps9
  go_wp2_with fail
  refine (awake23_any _ (ht.kept hk)).mono ?_
  rintro e w1 ⟨rfl, hn⟩
  replace hk := hk.trans hn
  clear hn
  go_wp2_with fail
  refine with_boxes4 ?_
  intro X hX m i f a
  have hsz := hk.size
  replace hk := hk.trans hX
  clear hX
  replace m_l := m.lt
  replace m_0 := m.at 0 _ rfl
  replace m_1 := m.at 1 _ rfl
  replace i_l := i.lt
  replace i_0 := i.at 0 _ rfl
  replace i_1 := i.at 1 _ rfl
  replace f_l := f.lt
  replace f_0 := f.at 0 _ rfl
  replace f_1 := f.at 1 _ rfl
  replace f_2 := f.at 2 _ rfl
  replace f_3 := f.at 3 _ rfl
  replace f_4 := f.at 4 _ rfl
  replace f_5 := f.at 5 _ rfl
  refine (pieces_is_no _ _ _ _ _ 2 _ _ (rv_lit a 6 2 (by decide) (intC (fL [[0, 0, 0, 0, 0, 0], [31 + d, 0, 0, 0, 0, 0]])) rfl) (by decide) (ht.kept hk) Hb.out).mono ?_
  rintro e w1 ⟨o1, c1, rfl, hn⟩
  replace hk := hk.trans hn
  replace m := m.kept hn
  replace i := i.kept hn
  replace f := f.kept hn
  replace a := a.kept hn
  clear hn
  replace m_l := m.lt
  replace m_0 := m.at 0 _ rfl
  replace m_1 := m.at 1 _ rfl
  replace i_l := i.lt
  replace i_0 := i.at 0 _ rfl
  replace i_1 := i.at 1 _ rfl
  replace f_l := f.lt
  replace f_0 := f.at 0 _ rfl
  replace f_1 := f.at 1 _ rfl
  replace f_2 := f.at 2 _ rfl
  replace f_3 := f.at 3 _ rfl
  replace f_4 := f.at 4 _ rfl
  replace f_5 := f.at 5 _ rfl
  clear a
  go_wp2_with fail
  refine with_boxes1 ?_
  intro X hX b
  have hsz := hk.size
  replace hk := hk.trans hX
  replace m := m.kept hX
  replace i := i.kept hX
  replace f := f.kept hX
  clear hX
  replace m_l := m.lt
  replace m_0 := m.at 0 _ rfl
  replace m_1 := m.at 1 _ rfl
  replace i_l := i.lt
  replace i_0 := i.at 0 _ rfl
  replace i_1 := i.at 1 _ rfl
  replace f_l := f.lt
  replace f_0 := f.at 0 _ rfl
  replace f_1 := f.at 1 _ rfl
  replace f_2 := f.at 2 _ rfl
  replace f_3 := f.at 3 _ rfl
  replace f_4 := f.at 4 _ rfl
  replace f_5 := f.at 5 _ rfl
  refine (pieces_is_no _ _ _ _ _ M _ _ (madeFrags b (by have := HM.out; omega)) (by have := HM.out; omega) (ht.kept hk) Hm.out).mono ?_
  rintro e w1 ⟨o2, c2, rfl, hn⟩
  replace hk := hk.trans hn
  replace m := m.kept hn
  replace i := i.kept hn
  replace f := f.kept hn
  replace b := b.kept hn
  clear hn
  replace m_l := m.lt
  replace m_0 := m.at 0 _ rfl
  replace m_1 := m.at 1 _ rfl
  replace i_l := i.lt
  replace i_0 := i.at 0 _ rfl
  replace i_1 := i.at 1 _ rfl
  replace f_l := f.lt
  replace f_0 := f.at 0 _ rfl
  replace f_1 := f.at 1 _ rfl
  replace f_2 := f.at 2 _ rfl
  replace f_3 := f.at 3 _ rfl
  replace f_4 := f.at 4 _ rfl
  replace f_5 := f.at 5 _ rfl
  clear b
  go_wp2_with fail
  refine (num_any _ _).mono ?_
  rintro e w1 ⟨rfl, rfl⟩
  go_wp2_with fail
  refine with_boxes1 ?_
  intro X hX e
  have hsz := hk.size
  replace hk := hk.trans hX
  replace m := m.kept hX
  replace i := i.kept hX
  replace f := f.kept hX
  clear hX
  replace m_l := m.lt
  replace m_0 := m.at 0 _ rfl
  replace m_1 := m.at 1 _ rfl
  replace i_l := i.lt
  replace i_0 := i.at 0 _ rfl
  replace i_1 := i.at 1 _ rfl
  replace f_l := f.lt
  replace f_0 := f.at 0 _ rfl
  replace f_1 := f.at 1 _ rfl
  replace f_2 := f.at 2 _ rfl
  replace f_3 := f.at 3 _ rfl
  replace f_4 := f.at 4 _ rfl
  replace f_5 := f.at 5 _ rfl
  refine (fragMay_is _ 1 _ false _ (rv_lit e 6 1 (by decide) (intC (fL [[31 + d, 0, 0, 0, 0, 0]])) rfl) (by decide) Hf.out).mono ?_
  rintro e w1 ⟨rfl, hn⟩
  replace hk := hk.trans hn
  replace m := m.kept hn
  replace i := i.kept hn
  replace f := f.kept hn
  replace e := e.kept hn
  clear hn
  replace m_l := m.lt
  replace m_0 := m.at 0 _ rfl
  replace m_1 := m.at 1 _ rfl
  replace i_l := i.lt
  replace i_0 := i.at 0 _ rfl
  replace i_1 := i.at 1 _ rfl
  replace f_l := f.lt
  replace f_0 := f.at 0 _ rfl
  replace f_1 := f.at 1 _ rfl
  replace f_2 := f.at 2 _ rfl
  replace f_3 := f.at 3 _ rfl
  replace f_4 := f.at 4 _ rfl
  replace f_5 := f.at 5 _ rfl
  go_wp2_with fail
  refine (num_any _ _).mono ?_
  rintro e w1 ⟨rfl, rfl⟩
  go_wp2
  go_ret
  exact ⟨rfl, hk⟩
set_option maxRecDepth 20000 in
set_option maxHeartbeats 4000000 in
theorem fragForms_2 (c x d : Int) (M : Nat) (hM : Int.toNat 4097 = M) (hi : (IntKind.u64.wrap c).tmod 10 = 2) (q : Int) (hq : bits .and .i64 x 1023 = q) (hqd : 1 + q = d) (d1 : 1 ≤ d) (d2 : d ≤ 1024) (w : World) (ht : Tab w) :
    Calls Tryd.prog 9 #[.int .i64 c, .int .i64 x] w fun e w' => e = .returned (.bool true) ∧ Kept w w' := by
  have hmk := makeFrags 4097 M (by decide) (by decide) hM
  have hM2 : M = 4097 := by omega
  have FB := (show fragB (fL [[1, -1 - d, 0, 0, 0, 0]] 0) = false from by show (inB 0 31 1 && inB (-1) 80 (-1 - d) && sizedB 0 0 && mayB 0 && mayB 0) = false; rw [show inB (-1) 80 (-1 - d) = false from inB_false.2 (by omega)]; simp)
  have Hb := Lib.hid (show piecesB 0 0 9 9 2 (fL [[0, 0, 0, 0, 0, 0], [1, -1 - d, 0, 0, 0, 0]]) = false from pieces_may (allF_one 1 (by decide) FB))
  have Hf := Lib.hid (show mayF 1 (fL [[1, -1 - d, 0, 0, 0, 0]]) = false from allF_one 0 (by decide) FB)
  have Hm := Lib.hid (show piecesB 0 0 0 0 M (fun _ _ => 0) = false from pieces_may (many23 (by omega) _))
  have HM := Lib.hid hM2
  clear FB hM hM2
  have hk : Kept w w := Kept.refl w
  go_enter Tryd.func9, Tryd.ntmps9
  go_wp2_with fail
  refine (awake23_any _ (ht.kept hk)).mono ?_
  rintro e w1 ⟨rfl, hn⟩
  replace hk := hk.trans hn
  clear hn
  go_wp2_with fail
  refine with_boxes4 ?_
  intro X hX m i f a
  have hsz := hk.size
  replace hk := hk.trans hX
  clear hX
  replace m_l := m.lt
  replace m_0 := m.at 0 _ rfl
  replace m_1 := m.at 1 _ rfl
  replace i_l := i.lt
  replace i_0 := i.at 0 _ rfl
  replace i_1 := i.at 1 _ rfl
  replace f_l := f.lt
  replace f_0 := f.at 0 _ rfl
  replace f_1 := f.at 1 _ rfl
  replace f_2 := f.at 2 _ rfl
  replace f_3 := f.at 3 _ rfl
  replace f_4 := f.at 4 _ rfl
  replace f_5 := f.at 5 _ rfl
  refine (pieces_is_no _ _ _ _ _ 2 _ _ (rv_lit a 6 2 (by decide) (intC (fL [[0, 0, 0, 0, 0, 0], [1, -1 - d, 0, 0, 0, 0]])) rfl) (by decide) (ht.kept hk) Hb.out).mono ?_
  rintro e w1 ⟨o1, c1, rfl, hn⟩
  replace hk := hk.trans hn
  replace m := m.kept hn
  replace i := i.kept hn
  replace f := f.kept hn
  replace a := a.kept hn
  clear hn
  replace m_l := m.lt
  replace m_0 := m.at 0 _ rfl
  replace m_1 := m.at 1 _ rfl
  replace i_l := i.lt
  replace i_0 := i.at 0 _ rfl
  replace i_1 := i.at 1 _ rfl
  replace f_l := f.lt
  replace f_0 := f.at 0 _ rfl
  replace f_1 := f.at 1 _ rfl
  replace f_2 := f.at 2 _ rfl
  replace f_3 := f.at 3 _ rfl
  replace f_4 := f.at 4 _ rfl
  replace f_5 := f.at 5 _ rfl
  clear a
  go_wp2_with fail
  refine with_boxes1 ?_
  intro X hX b
  have hsz := hk.size
  replace hk := hk.trans hX
  replace m := m.kept hX
  replace i := i.kept hX
  replace f := f.kept hX
  clear hX
  replace m_l := m.lt
  replace m_0 := m.at 0 _ rfl
  replace m_1 := m.at 1 _ rfl
  replace i_l := i.lt
  replace i_0 := i.at 0 _ rfl
  replace i_1 := i.at 1 _ rfl
  replace f_l := f.lt
  replace f_0 := f.at 0 _ rfl
  replace f_1 := f.at 1 _ rfl
  replace f_2 := f.at 2 _ rfl
  replace f_3 := f.at 3 _ rfl
  replace f_4 := f.at 4 _ rfl
  replace f_5 := f.at 5 _ rfl
  refine (pieces_is_no _ _ _ _ _ M _ _ (madeFrags b (by have := HM.out; omega)) (by have := HM.out; omega) (ht.kept hk) Hm.out).mono ?_
  rintro e w1 ⟨o2, c2, rfl, hn⟩
  replace hk := hk.trans hn
  replace m := m.kept hn
  replace i := i.kept hn
  replace f := f.kept hn
  replace b := b.kept hn
  clear hn
  replace m_l := m.lt
  replace m_0 := m.at 0 _ rfl
  replace m_1 := m.at 1 _ rfl
  replace i_l := i.lt
  replace i_0 := i.at 0 _ rfl
  replace i_1 := i.at 1 _ rfl
  replace f_l := f.lt
  replace f_0 := f.at 0 _ rfl
  replace f_1 := f.at 1 _ rfl
  replace f_2 := f.at 2 _ rfl
  replace f_3 := f.at 3 _ rfl
  replace f_4 := f.at 4 _ rfl
  replace f_5 := f.at 5 _ rfl
  clear b
  go_wp2_with fail
  refine (num_any _ _).mono ?_
  rintro e w1 ⟨rfl, rfl⟩
  go_wp2_with fail
  refine with_boxes1 ?_
  intro X hX e
  have hsz := hk.size
  replace hk := hk.trans hX
  replace m := m.kept hX
  replace i := i.kept hX
  replace f := f.kept hX
  clear hX
  replace m_l := m.lt
  replace m_0 := m.at 0 _ rfl
  replace m_1 := m.at 1 _ rfl
  replace i_l := i.lt
  replace i_0 := i.at 0 _ rfl
  replace i_1 := i.at 1 _ rfl
  replace f_l := f.lt
  replace f_0 := f.at 0 _ rfl
  replace f_1 := f.at 1 _ rfl
  replace f_2 := f.at 2 _ rfl
  replace f_3 := f.at 3 _ rfl
  replace f_4 := f.at 4 _ rfl
  replace f_5 := f.at 5 _ rfl
  refine (fragMay_is _ 1 _ false _ (rv_lit e 6 1 (by decide) (intC (fL [[1, -1 - d, 0, 0, 0, 0]])) rfl) (by decide) Hf.out).mono ?_
  rintro e w1 ⟨rfl, hn⟩
  replace hk := hk.trans hn
  replace m := m.kept hn
  replace i := i.kept hn
  replace f := f.kept hn
  replace e := e.kept hn
  clear hn
  replace m_l := m.lt
  replace m_0 := m.at 0 _ rfl
  replace m_1 := m.at 1 _ rfl
  replace i_l := i.lt
  replace i_0 := i.at 0 _ rfl
  replace i_1 := i.at 1 _ rfl
  replace f_l := f.lt
  replace f_0 := f.at 0 _ rfl
  replace f_1 := f.at 1 _ rfl
  replace f_2 := f.at 2 _ rfl
  replace f_3 := f.at 3 _ rfl
  replace f_4 := f.at 4 _ rfl
  replace f_5 := f.at 5 _ rfl
  go_wp2_with fail
  refine (num_any _ _).mono ?_
  rintro e w1 ⟨rfl, rfl⟩
  go_wp2
  go_ret
  exact ⟨rfl, hk⟩
set_option maxRecDepth 20000 in
set_option maxHeartbeats 4000000 in
theorem fragForms_3 (c x d : Int) (M : Nat) (hM : Int.toNat 4097 = M) (hi : (IntKind.u64.wrap c).tmod 10 = 3) (q : Int) (hq : bits .and .i64 x 1023 = q) (hqd : 1 + q = d) (d1 : 1 ≤ d) (d2 : d ≤ 1024) (w : World) (ht : Tab w) :
    Calls Tryd.prog 9 #[.int .i64 c, .int .i64 x] w fun e w' => e = .returned (.bool true) ∧ Kept w w' := by
  have hmk := makeFrags 4097 M (by decide) (by decide) hM
  have hM2 : M = 4097 := by omega
  have FB := (show fragB (fL [[1, 80 + d, 0, 0, 0, 0]] 0) = false from by show (inB 0 31 1 && inB (-1) 80 (80 + d) && sizedB 0 0 && mayB 0 && mayB 0) = false; rw [show inB (-1) 80 (80 + d) = false from inB_false.2 (by omega)]; simp)
  have Hb := Lib.hid (show piecesB 0 0 9 9 2 (fL [[0, 0, 0, 0, 0, 0], [1, 80 + d, 0, 0, 0, 0]]) = false from pieces_may (allF_one 1 (by decide) FB))
  have Hf := Lib.hid (show mayF 1 (fL [[1, 80 + d, 0, 0, 0, 0]]) = false from allF_one 0 (by decide) FB)
  have Hm := Lib.hid (show piecesB 0 0 0 0 M (fun _ _ => 0) = false from pieces_may (many23 (by omega) _))
  have HM := Lib.hid hM2
  clear FB hM hM2
  have hk : Kept w w := Kept.refl w
  go_enter Tryd.func9, Tryd.ntmps9
  go_wp2_with fail
  refine (awake23_any _ (ht.kept hk)).mono ?_
  rintro e w1 ⟨rfl, hn⟩
  replace hk := hk.trans hn
  clear hn
  go_wp2_with fail
  refine with_boxes4 ?_
  intro X hX m i f a
  have hsz := hk.size
  replace hk := hk.trans hX
  clear hX
  replace m_l := m.lt
  replace m_0 := m.at 0 _ rfl
  replace m_1 := m.at 1 _ rfl
  replace i_l := i.lt
  replace i_0 := i.at 0 _ rfl
  replace i_1 := i.at 1 _ rfl
  replace f_l := f.lt
  replace f_0 := f.at 0 _ rfl
  replace f_1 := f.at 1 _ rfl
  replace f_2 := f.at 2 _ rfl
  replace f_3 := f.at 3 _ rfl
  replace f_4 := f.at 4 _ rfl
  replace f_5 := f.at 5 _ rfl
  refine (pieces_is_no _ _ _ _ _ 2 _ _ (rv_lit a 6 2 (by decide) (intC (fL [[0, 0, 0, 0, 0, 0], [1, 80 + d, 0, 0, 0, 0]])) rfl) (by decide) (ht.kept hk) Hb.out).mono ?_
  rintro e w1 ⟨o1, c1, rfl, hn⟩
  replace hk := hk.trans hn
  replace m := m.kept hn
  replace i := i.kept hn
  replace f := f.kept hn
  replace a := a.kept hn
  clear hn
  replace m_l := m.lt
  replace m_0 := m.at 0 _ rfl
  replace m_1 := m.at 1 _ rfl
  replace i_l := i.lt
  replace i_0 := i.at 0 _ rfl
  replace i_1 := i.at 1 _ rfl
  replace f_l := f.lt
  replace f_0 := f.at 0 _ rfl
  replace f_1 := f.at 1 _ rfl
  replace f_2 := f.at 2 _ rfl
  replace f_3 := f.at 3 _ rfl
  replace f_4 := f.at 4 _ rfl
  replace f_5 := f.at 5 _ rfl
  clear a
  go_wp2_with fail
  refine with_boxes1 ?_
  intro X hX b
  have hsz := hk.size
  replace hk := hk.trans hX
  replace m := m.kept hX
  replace i := i.kept hX
  replace f := f.kept hX
  clear hX
  replace m_l := m.lt
  replace m_0 := m.at 0 _ rfl
  replace m_1 := m.at 1 _ rfl
  replace i_l := i.lt
  replace i_0 := i.at 0 _ rfl
  replace i_1 := i.at 1 _ rfl
  replace f_l := f.lt
  replace f_0 := f.at 0 _ rfl
  replace f_1 := f.at 1 _ rfl
  replace f_2 := f.at 2 _ rfl
  replace f_3 := f.at 3 _ rfl
  replace f_4 := f.at 4 _ rfl
  replace f_5 := f.at 5 _ rfl
  refine (pieces_is_no _ _ _ _ _ M _ _ (madeFrags b (by have := HM.out; omega)) (by have := HM.out; omega) (ht.kept hk) Hm.out).mono ?_
  rintro e w1 ⟨o2, c2, rfl, hn⟩
  replace hk := hk.trans hn
  replace m := m.kept hn
  replace i := i.kept hn
  replace f := f.kept hn
  replace b := b.kept hn
  clear hn
  replace m_l := m.lt
  replace m_0 := m.at 0 _ rfl
  replace m_1 := m.at 1 _ rfl
  replace i_l := i.lt
  replace i_0 := i.at 0 _ rfl
  replace i_1 := i.at 1 _ rfl
  replace f_l := f.lt
  replace f_0 := f.at 0 _ rfl
  replace f_1 := f.at 1 _ rfl
  replace f_2 := f.at 2 _ rfl
  replace f_3 := f.at 3 _ rfl
  replace f_4 := f.at 4 _ rfl
  replace f_5 := f.at 5 _ rfl
  clear b
  go_wp2_with fail
  refine (num_any _ _).mono ?_
  rintro e w1 ⟨rfl, rfl⟩
  go_wp2_with fail
  refine with_boxes1 ?_
  intro X hX e
  have hsz := hk.size
  replace hk := hk.trans hX
  replace m := m.kept hX
  replace i := i.kept hX
  replace f := f.kept hX
  clear hX
  replace m_l := m.lt
  replace m_0 := m.at 0 _ rfl
  replace m_1 := m.at 1 _ rfl
  replace i_l := i.lt
  replace i_0 := i.at 0 _ rfl
  replace i_1 := i.at 1 _ rfl
  replace f_l := f.lt
  replace f_0 := f.at 0 _ rfl
  replace f_1 := f.at 1 _ rfl
  replace f_2 := f.at 2 _ rfl
  replace f_3 := f.at 3 _ rfl
  replace f_4 := f.at 4 _ rfl
  replace f_5 := f.at 5 _ rfl
  refine (fragMay_is _ 1 _ false _ (rv_lit e 6 1 (by decide) (intC (fL [[1, 80 + d, 0, 0, 0, 0]])) rfl) (by decide) Hf.out).mono ?_
  rintro e w1 ⟨rfl, hn⟩
  replace hk := hk.trans hn
  replace m := m.kept hn
  replace i := i.kept hn
  replace f := f.kept hn
  replace e := e.kept hn
  clear hn
  replace m_l := m.lt
  replace m_0 := m.at 0 _ rfl
  replace m_1 := m.at 1 _ rfl
  replace i_l := i.lt
  replace i_0 := i.at 0 _ rfl
  replace i_1 := i.at 1 _ rfl
  replace f_l := f.lt
  replace f_0 := f.at 0 _ rfl
  replace f_1 := f.at 1 _ rfl
  replace f_2 := f.at 2 _ rfl
  replace f_3 := f.at 3 _ rfl
  replace f_4 := f.at 4 _ rfl
  replace f_5 := f.at 5 _ rfl
  go_wp2_with fail
  refine (num_any _ _).mono ?_
  rintro e w1 ⟨rfl, rfl⟩
  go_wp2
  go_ret
  exact ⟨rfl, hk⟩
set_option maxRecDepth 20000 in
set_option maxHeartbeats 4000000 in
theorem fragForms_4 (c x d : Int) (M : Nat) (hM : Int.toNat 4097 = M) (hi : (IntKind.u64.wrap c).tmod 10 = 4) (q : Int) (hq : bits .and .i64 x 1023 = q) (hqd : 1 + q = d) (d1 : 1 ≤ d) (d2 : d ≤ 1024) (w : World) (ht : Tab w) :
    Calls Tryd.prog 9 #[.int .i64 c, .int .i64 x] w fun e w' => e = .returned (.bool true) ∧ Kept w w' := by
  have hmk := makeFrags 4097 M (by decide) (by decide) hM
  have hM2 : M = 4097 := by omega
  have FB := (show fragB (fL [[1, 0, 0, 0, -d, 0]] 0) = false from by show (inB 0 31 1 && inB (-1) 80 0 && sizedB (-d) 0 && mayB 0 && mayB 0) = false; rw [show sizedB (-d) 0 = false by unfold sizedB; rw [show inB 0 1073741824 (-d) = false from inB_false.2 (by omega)]; rfl]; simp)
  have Hb := Lib.hid (show piecesB 0 0 9 9 2 (fL [[0, 0, 0, 0, 0, 0], [1, 0, 0, 0, -d, 0]]) = false from pieces_may (allF_one 1 (by decide) FB))
  have Hf := Lib.hid (show mayF 1 (fL [[1, 0, 0, 0, -d, 0]]) = false from allF_one 0 (by decide) FB)
  have Hm := Lib.hid (show piecesB 0 0 0 0 M (fun _ _ => 0) = false from pieces_may (many23 (by omega) _))
  have HM := Lib.hid hM2
  clear FB hM hM2
  have hk : Kept w w := Kept.refl w
  go_enter Tryd.func9, Tryd.ntmps9
  go_wp2_with fail
  refine (awake23_any _ (ht.kept hk)).mono ?_
  rintro e w1 ⟨rfl, hn⟩
  replace hk := hk.trans hn
  clear hn
  go_wp2_with fail
  refine with_boxes4 ?_
  intro X hX m i f a
  have hsz := hk.size
  replace hk := hk.trans hX
  clear hX
  replace m_l := m.lt
  replace m_0 := m.at 0 _ rfl
  replace m_1 := m.at 1 _ rfl
  replace i_l := i.lt
  replace i_0 := i.at 0 _ rfl
  replace i_1 := i.at 1 _ rfl
  replace f_l := f.lt
  replace f_0 := f.at 0 _ rfl
  replace f_1 := f.at 1 _ rfl
  replace f_2 := f.at 2 _ rfl
  replace f_3 := f.at 3 _ rfl
  replace f_4 := f.at 4 _ rfl
  replace f_5 := f.at 5 _ rfl
  refine (pieces_is_no _ _ _ _ _ 2 _ _ (rv_lit a 6 2 (by decide) (intC (fL [[0, 0, 0, 0, 0, 0], [1, 0, 0, 0, -d, 0]])) rfl) (by decide) (ht.kept hk) Hb.out).mono ?_
  rintro e w1 ⟨o1, c1, rfl, hn⟩
  replace hk := hk.trans hn
  replace m := m.kept hn
  replace i := i.kept hn
  replace f := f.kept hn
  replace a := a.kept hn
  clear hn
  replace m_l := m.lt
  replace m_0 := m.at 0 _ rfl
  replace m_1 := m.at 1 _ rfl
  replace i_l := i.lt
  replace i_0 := i.at 0 _ rfl
  replace i_1 := i.at 1 _ rfl
  replace f_l := f.lt
  replace f_0 := f.at 0 _ rfl
  replace f_1 := f.at 1 _ rfl
  replace f_2 := f.at 2 _ rfl
  replace f_3 := f.at 3 _ rfl
  replace f_4 := f.at 4 _ rfl
  replace f_5 := f.at 5 _ rfl
  clear a
  go_wp2_with fail
  refine with_boxes1 ?_
  intro X hX b
  have hsz := hk.size
  replace hk := hk.trans hX
  replace m := m.kept hX
  replace i := i.kept hX
  replace f := f.kept hX
  clear hX
  replace m_l := m.lt
  replace m_0 := m.at 0 _ rfl
  replace m_1 := m.at 1 _ rfl
  replace i_l := i.lt
  replace i_0 := i.at 0 _ rfl
  replace i_1 := i.at 1 _ rfl
  replace f_l := f.lt
  replace f_0 := f.at 0 _ rfl
  replace f_1 := f.at 1 _ rfl
  replace f_2 := f.at 2 _ rfl
  replace f_3 := f.at 3 _ rfl
  replace f_4 := f.at 4 _ rfl
  replace f_5 := f.at 5 _ rfl
  refine (pieces_is_no _ _ _ _ _ M _ _ (madeFrags b (by have := HM.out; omega)) (by have := HM.out; omega) (ht.kept hk) Hm.out).mono ?_
  rintro e w1 ⟨o2, c2, rfl, hn⟩
  replace hk := hk.trans hn
  replace m := m.kept hn
  replace i := i.kept hn
  replace f := f.kept hn
  replace b := b.kept hn
  clear hn
  replace m_l := m.lt
  replace m_0 := m.at 0 _ rfl
  replace m_1 := m.at 1 _ rfl
  replace i_l := i.lt
  replace i_0 := i.at 0 _ rfl
  replace i_1 := i.at 1 _ rfl
  replace f_l := f.lt
  replace f_0 := f.at 0 _ rfl
  replace f_1 := f.at 1 _ rfl
  replace f_2 := f.at 2 _ rfl
  replace f_3 := f.at 3 _ rfl
  replace f_4 := f.at 4 _ rfl
  replace f_5 := f.at 5 _ rfl
  clear b
  go_wp2_with fail
  refine (num_any _ _).mono ?_
  rintro e w1 ⟨rfl, rfl⟩
  go_wp2_with fail
  refine with_boxes1 ?_
  intro X hX e
  have hsz := hk.size
  replace hk := hk.trans hX
  replace m := m.kept hX
  replace i := i.kept hX
  replace f := f.kept hX
  clear hX
  replace m_l := m.lt
  replace m_0 := m.at 0 _ rfl
  replace m_1 := m.at 1 _ rfl
  replace i_l := i.lt
  replace i_0 := i.at 0 _ rfl
  replace i_1 := i.at 1 _ rfl
  replace f_l := f.lt
  replace f_0 := f.at 0 _ rfl
  replace f_1 := f.at 1 _ rfl
  replace f_2 := f.at 2 _ rfl
  replace f_3 := f.at 3 _ rfl
  replace f_4 := f.at 4 _ rfl
  replace f_5 := f.at 5 _ rfl
  refine (fragMay_is _ 1 _ false _ (rv_lit e 6 1 (by decide) (intC (fL [[1, 0, 0, 0, -d, 0]])) rfl) (by decide) Hf.out).mono ?_
  rintro e w1 ⟨rfl, hn⟩
  replace hk := hk.trans hn
  replace m := m.kept hn
  replace i := i.kept hn
  replace f := f.kept hn
  replace e := e.kept hn
  clear hn
  replace m_l := m.lt
  replace m_0 := m.at 0 _ rfl
  replace m_1 := m.at 1 _ rfl
  replace i_l := i.lt
  replace i_0 := i.at 0 _ rfl
  replace i_1 := i.at 1 _ rfl
  replace f_l := f.lt
  replace f_0 := f.at 0 _ rfl
  replace f_1 := f.at 1 _ rfl
  replace f_2 := f.at 2 _ rfl
  replace f_3 := f.at 3 _ rfl
  replace f_4 := f.at 4 _ rfl
  replace f_5 := f.at 5 _ rfl
  go_wp2_with fail
  refine (num_any _ _).mono ?_
  rintro e w1 ⟨rfl, rfl⟩
  go_wp2
  go_ret
  exact ⟨rfl, hk⟩
set_option maxRecDepth 20000 in
set_option maxHeartbeats 4000000 in
theorem fragForms_5 (c x d : Int) (M : Nat) (hM : Int.toNat 4097 = M) (hi : (IntKind.u64.wrap c).tmod 10 = 5) (q : Int) (hq : bits .and .i64 x 1023 = q) (hqd : 1 + q = d) (d1 : 1 ≤ d) (d2 : d ≤ 1024) (w : World) (ht : Tab w) :
    Calls Tryd.prog 9 #[.int .i64 c, .int .i64 x] w fun e w' => e = .returned (.bool true) ∧ Kept w w' := by
  have hmk := makeFrags 4097 M (by decide) (by decide) hM
  have hM2 : M = 4097 := by omega
  have FB := (show fragB (fL [[1, 0, 0, 1073741824 + d, 0, 0]] 0) = false from by show (inB 0 31 1 && inB (-1) 80 0 && sizedB 0 0 && mayB 0 && mayB (1073741824 + d)) = false; rw [show mayB (1073741824 + d) = false by unfold mayB; simp; omega]; simp)
  have Hb := Lib.hid (show piecesB 0 0 9 9 2 (fL [[0, 0, 0, 0, 0, 0], [1, 0, 0, 1073741824 + d, 0, 0]]) = false from pieces_may (allF_one 1 (by decide) FB))
  have Hf := Lib.hid (show mayF 1 (fL [[1, 0, 0, 1073741824 + d, 0, 0]]) = false from allF_one 0 (by decide) FB)
  have Hm := Lib.hid (show piecesB 0 0 0 0 M (fun _ _ => 0) = false from pieces_may (many23 (by omega) _))
  have HM := Lib.hid hM2
  clear FB hM hM2
  have hk : Kept w w := Kept.refl w
  go_enter Tryd.func9, Tryd.ntmps9
  go_wp2_with fail
  refine (awake23_any _ (ht.kept hk)).mono ?_
  rintro e w1 ⟨rfl, hn⟩
  replace hk := hk.trans hn
  clear hn
  go_wp2_with fail
  refine with_boxes4 ?_
  intro X hX m i f a
  have hsz := hk.size
  replace hk := hk.trans hX
  clear hX
  replace m_l := m.lt
  replace m_0 := m.at 0 _ rfl
  replace m_1 := m.at 1 _ rfl
  replace i_l := i.lt
  replace i_0 := i.at 0 _ rfl
  replace i_1 := i.at 1 _ rfl
  replace f_l := f.lt
  replace f_0 := f.at 0 _ rfl
  replace f_1 := f.at 1 _ rfl
  replace f_2 := f.at 2 _ rfl
  replace f_3 := f.at 3 _ rfl
  replace f_4 := f.at 4 _ rfl
  replace f_5 := f.at 5 _ rfl
  refine (pieces_is_no _ _ _ _ _ 2 _ _ (rv_lit a 6 2 (by decide) (intC (fL [[0, 0, 0, 0, 0, 0], [1, 0, 0, 1073741824 + d, 0, 0]])) rfl) (by decide) (ht.kept hk) Hb.out).mono ?_
  rintro e w1 ⟨o1, c1, rfl, hn⟩
  replace hk := hk.trans hn
  replace m := m.kept hn
  replace i := i.kept hn
  replace f := f.kept hn
  replace a := a.kept hn
  clear hn
  replace m_l := m.lt
  replace m_0 := m.at 0 _ rfl
  replace m_1 := m.at 1 _ rfl
  replace i_l := i.lt
  replace i_0 := i.at 0 _ rfl
  replace i_1 := i.at 1 _ rfl
  replace f_l := f.lt
  replace f_0 := f.at 0 _ rfl
  replace f_1 := f.at 1 _ rfl
  replace f_2 := f.at 2 _ rfl
  replace f_3 := f.at 3 _ rfl
  replace f_4 := f.at 4 _ rfl
  replace f_5 := f.at 5 _ rfl
  clear a
  go_wp2_with fail
  refine with_boxes1 ?_
  intro X hX b
  have hsz := hk.size
  replace hk := hk.trans hX
  replace m := m.kept hX
  replace i := i.kept hX
  replace f := f.kept hX
  clear hX
  replace m_l := m.lt
  replace m_0 := m.at 0 _ rfl
  replace m_1 := m.at 1 _ rfl
  replace i_l := i.lt
  replace i_0 := i.at 0 _ rfl
  replace i_1 := i.at 1 _ rfl
  replace f_l := f.lt
  replace f_0 := f.at 0 _ rfl
  replace f_1 := f.at 1 _ rfl
  replace f_2 := f.at 2 _ rfl
  replace f_3 := f.at 3 _ rfl
  replace f_4 := f.at 4 _ rfl
  replace f_5 := f.at 5 _ rfl
  refine (pieces_is_no _ _ _ _ _ M _ _ (madeFrags b (by have := HM.out; omega)) (by have := HM.out; omega) (ht.kept hk) Hm.out).mono ?_
  rintro e w1 ⟨o2, c2, rfl, hn⟩
  replace hk := hk.trans hn
  replace m := m.kept hn
  replace i := i.kept hn
  replace f := f.kept hn
  replace b := b.kept hn
  clear hn
  replace m_l := m.lt
  replace m_0 := m.at 0 _ rfl
  replace m_1 := m.at 1 _ rfl
  replace i_l := i.lt
  replace i_0 := i.at 0 _ rfl
  replace i_1 := i.at 1 _ rfl
  replace f_l := f.lt
  replace f_0 := f.at 0 _ rfl
  replace f_1 := f.at 1 _ rfl
  replace f_2 := f.at 2 _ rfl
  replace f_3 := f.at 3 _ rfl
  replace f_4 := f.at 4 _ rfl
  replace f_5 := f.at 5 _ rfl
  clear b
  go_wp2_with fail
  refine (num_any _ _).mono ?_
  rintro e w1 ⟨rfl, rfl⟩
  go_wp2_with fail
  refine with_boxes1 ?_
  intro X hX e
  have hsz := hk.size
  replace hk := hk.trans hX
  replace m := m.kept hX
  replace i := i.kept hX
  replace f := f.kept hX
  clear hX
  replace m_l := m.lt
  replace m_0 := m.at 0 _ rfl
  replace m_1 := m.at 1 _ rfl
  replace i_l := i.lt
  replace i_0 := i.at 0 _ rfl
  replace i_1 := i.at 1 _ rfl
  replace f_l := f.lt
  replace f_0 := f.at 0 _ rfl
  replace f_1 := f.at 1 _ rfl
  replace f_2 := f.at 2 _ rfl
  replace f_3 := f.at 3 _ rfl
  replace f_4 := f.at 4 _ rfl
  replace f_5 := f.at 5 _ rfl
  refine (fragMay_is _ 1 _ false _ (rv_lit e 6 1 (by decide) (intC (fL [[1, 0, 0, 1073741824 + d, 0, 0]])) rfl) (by decide) Hf.out).mono ?_
  rintro e w1 ⟨rfl, hn⟩
  replace hk := hk.trans hn
  replace m := m.kept hn
  replace i := i.kept hn
  replace f := f.kept hn
  replace e := e.kept hn
  clear hn
  replace m_l := m.lt
  replace m_0 := m.at 0 _ rfl
  replace m_1 := m.at 1 _ rfl
  replace i_l := i.lt
  replace i_0 := i.at 0 _ rfl
  replace i_1 := i.at 1 _ rfl
  replace f_l := f.lt
  replace f_0 := f.at 0 _ rfl
  replace f_1 := f.at 1 _ rfl
  replace f_2 := f.at 2 _ rfl
  replace f_3 := f.at 3 _ rfl
  replace f_4 := f.at 4 _ rfl
  replace f_5 := f.at 5 _ rfl
  go_wp2_with fail
  refine (num_any _ _).mono ?_
  rintro e w1 ⟨rfl, rfl⟩
  go_wp2
  go_ret
  exact ⟨rfl, hk⟩
set_option maxRecDepth 20000 in
set_option maxHeartbeats 4000000 in
theorem fragForms_6 (c x d : Int) (M : Nat) (hM : Int.toNat 4097 = M) (hi : (IntKind.u64.wrap c).tmod 10 = 6) (q : Int) (hq : bits .and .i64 x 1023 = q) (hqd : 1 + q = d) (d1 : 1 ≤ d) (d2 : d ≤ 1024) (w : World) (ht : Tab w) :
    Calls Tryd.prog 9 #[.int .i64 c, .int .i64 x] w fun e w' => e = .returned (.bool true) ∧ Kept w w' := by
  have hmk := makeFrags 4097 M (by decide) (by decide) hM
  have hM2 : M = 4097 := by omega
  have FB := True.intro
  have Hb := Lib.hid (show piecesB (-d) 0 9 9 2 (fL [[0, 0, 0, 0, 0, 0], [1, 0, 0, 0, 0, 0]]) = false from pieces_mode (show modeMayB (-d) 0 = false by unfold modeMayB; rw [show inB 0 2 (-d) = false from inB_false.2 (by omega)]; rfl))
  have Hf := Lib.hid (show mayF 1 (fL [[1, 0, 0, 0, 0, 0]]) = true from by decide)
  have Hm := Lib.hid (show piecesB 0 0 0 0 M (fun _ _ => 0) = false from pieces_may (many23 (by omega) _))
  have HM := Lib.hid hM2
  clear FB hM hM2
  have hk : Kept w w := Kept.refl w
  go_enter Tryd.func9, Tryd.ntmps9
  go_wp2_with fail
  refine (awake23_any _ (ht.kept hk)).mono ?_
  rintro e w1 ⟨rfl, hn⟩
  replace hk := hk.trans hn
  clear hn
  go_wp2_with fail
  refine with_boxes4 ?_
  intro X hX m i f a
  have hsz := hk.size
  replace hk := hk.trans hX
  clear hX
  replace m_l := m.lt
  replace m_0 := m.at 0 _ rfl
  replace m_1 := m.at 1 _ rfl
  replace i_l := i.lt
  replace i_0 := i.at 0 _ rfl
  replace i_1 := i.at 1 _ rfl
  replace f_l := f.lt
  replace f_0 := f.at 0 _ rfl
  replace f_1 := f.at 1 _ rfl
  replace f_2 := f.at 2 _ rfl
  replace f_3 := f.at 3 _ rfl
  replace f_4 := f.at 4 _ rfl
  replace f_5 := f.at 5 _ rfl
  refine (pieces_is_no _ _ _ _ _ 2 _ _ (rv_lit a 6 2 (by decide) (intC (fL [[0, 0, 0, 0, 0, 0], [1, 0, 0, 0, 0, 0]])) rfl) (by decide) (ht.kept hk) Hb.out).mono ?_
  rintro e w1 ⟨o1, c1, rfl, hn⟩
  replace hk := hk.trans hn
  replace m := m.kept hn
  replace i := i.kept hn
  replace f := f.kept hn
  replace a := a.kept hn
  clear hn
  replace m_l := m.lt
  replace m_0 := m.at 0 _ rfl
  replace m_1 := m.at 1 _ rfl
  replace i_l := i.lt
  replace i_0 := i.at 0 _ rfl
  replace i_1 := i.at 1 _ rfl
  replace f_l := f.lt
  replace f_0 := f.at 0 _ rfl
  replace f_1 := f.at 1 _ rfl
  replace f_2 := f.at 2 _ rfl
  replace f_3 := f.at 3 _ rfl
  replace f_4 := f.at 4 _ rfl
  replace f_5 := f.at 5 _ rfl
  clear a
  go_wp2_with fail
  refine with_boxes1 ?_
  intro X hX b
  have hsz := hk.size
  replace hk := hk.trans hX
  replace m := m.kept hX
  replace i := i.kept hX
  replace f := f.kept hX
  clear hX
  replace m_l := m.lt
  replace m_0 := m.at 0 _ rfl
  replace m_1 := m.at 1 _ rfl
  replace i_l := i.lt
  replace i_0 := i.at 0 _ rfl
  replace i_1 := i.at 1 _ rfl
  replace f_l := f.lt
  replace f_0 := f.at 0 _ rfl
  replace f_1 := f.at 1 _ rfl
  replace f_2 := f.at 2 _ rfl
  replace f_3 := f.at 3 _ rfl
  replace f_4 := f.at 4 _ rfl
  replace f_5 := f.at 5 _ rfl
  refine (pieces_is_no _ _ _ _ _ M _ _ (madeFrags b (by have := HM.out; omega)) (by have := HM.out; omega) (ht.kept hk) Hm.out).mono ?_
  rintro e w1 ⟨o2, c2, rfl, hn⟩
  replace hk := hk.trans hn
  replace m := m.kept hn
  replace i := i.kept hn
  replace f := f.kept hn
  replace b := b.kept hn
  clear hn
  replace m_l := m.lt
  replace m_0 := m.at 0 _ rfl
  replace m_1 := m.at 1 _ rfl
  replace i_l := i.lt
  replace i_0 := i.at 0 _ rfl
  replace i_1 := i.at 1 _ rfl
  replace f_l := f.lt
  replace f_0 := f.at 0 _ rfl
  replace f_1 := f.at 1 _ rfl
  replace f_2 := f.at 2 _ rfl
  replace f_3 := f.at 3 _ rfl
  replace f_4 := f.at 4 _ rfl
  replace f_5 := f.at 5 _ rfl
  clear b
  go_wp2_with fail
  refine (num_any _ _).mono ?_
  rintro e w1 ⟨rfl, rfl⟩
  go_wp2_with fail
  refine with_boxes1 ?_
  intro X hX e
  have hsz := hk.size
  replace hk := hk.trans hX
  replace m := m.kept hX
  replace i := i.kept hX
  replace f := f.kept hX
  clear hX
  replace m_l := m.lt
  replace m_0 := m.at 0 _ rfl
  replace m_1 := m.at 1 _ rfl
  replace i_l := i.lt
  replace i_0 := i.at 0 _ rfl
  replace i_1 := i.at 1 _ rfl
  replace f_l := f.lt
  replace f_0 := f.at 0 _ rfl
  replace f_1 := f.at 1 _ rfl
  replace f_2 := f.at 2 _ rfl
  replace f_3 := f.at 3 _ rfl
  replace f_4 := f.at 4 _ rfl
  replace f_5 := f.at 5 _ rfl
  refine (fragMay_is _ 1 _ true _ (rv_lit e 6 1 (by decide) (intC (fL [[1, 0, 0, 0, 0, 0]])) rfl) (by decide) Hf.out).mono ?_
  rintro e w1 ⟨rfl, hn⟩
  replace hk := hk.trans hn
  replace m := m.kept hn
  replace i := i.kept hn
  replace f := f.kept hn
  replace e := e.kept hn
  clear hn
  replace m_l := m.lt
  replace m_0 := m.at 0 _ rfl
  replace m_1 := m.at 1 _ rfl
  replace i_l := i.lt
  replace i_0 := i.at 0 _ rfl
  replace i_1 := i.at 1 _ rfl
  replace f_l := f.lt
  replace f_0 := f.at 0 _ rfl
  replace f_1 := f.at 1 _ rfl
  replace f_2 := f.at 2 _ rfl
  replace f_3 := f.at 3 _ rfl
  replace f_4 := f.at 4 _ rfl
  replace f_5 := f.at 5 _ rfl
  go_wp2_with fail
  refine (num_any _ _).mono ?_
  rintro e w1 ⟨rfl, rfl⟩
  go_wp2
  go_ret
  exact ⟨rfl, hk⟩
set_option maxRecDepth 20000 in
set_option maxHeartbeats 4000000 in
theorem fragForms_7 (c x d : Int) (M : Nat) (hM : Int.toNat 4097 = M) (hi : (IntKind.u64.wrap c).tmod 10 = 7) (q : Int) (hq : bits .and .i64 x 1023 = q) (hqd : 1 + q = d) (d1 : 1 ≤ d) (d2 : d ≤ 1024) (w : World) (ht : Tab w) :
    Calls Tryd.prog 9 #[.int .i64 c, .int .i64 x] w fun e w' => e = .returned (.bool true) ∧ Kept w w' := by
  have hmk := makeFrags 4097 M (by decide) (by decide) hM
  have hM2 : M = 4097 := by omega
  have FB := True.intro
  have Hb := Lib.hid (show piecesB 0 0 9 (-d) 2 (fL [[0, 0, 0, 0, 0, 0], [1, 0, 0, 0, 0, 0]]) = false from pieces_size (show sizedB 9 (-d) = false by unfold sizedB; rw [show inB 0 1073741824 (-d) = false from inB_false.2 (by omega)]; first | rfl | simp))
  have Hf := Lib.hid (show mayF 1 (fL [[1, 0, 0, 0, 0, 0]]) = true from by decide)
  have Hm := Lib.hid (show piecesB 0 0 0 0 M (fun _ _ => 0) = false from pieces_may (many23 (by omega) _))
  have HM := Lib.hid hM2
  clear FB hM hM2
  have hk : Kept w w := Kept.refl w
  go_enter Tryd.func9, Tryd.ntmps9
  go_wp2_with fail
  refine (awake23_any _ (ht.kept hk)).mono ?_
  rintro e w1 ⟨rfl, hn⟩
  replace hk := hk.trans hn
  clear hn
  go_wp2_with fail
  refine with_boxes4 ?_
  intro X hX m i f a
  have hsz := hk.size
  replace hk := hk.trans hX
  clear hX
  replace m_l := m.lt
  replace m_0 := m.at 0 _ rfl
  replace m_1 := m.at 1 _ rfl
  replace i_l := i.lt
  replace i_0 := i.at 0 _ rfl
  replace i_1 := i.at 1 _ rfl
  replace f_l := f.lt
  replace f_0 := f.at 0 _ rfl
  replace f_1 := f.at 1 _ rfl
  replace f_2 := f.at 2 _ rfl
  replace f_3 := f.at 3 _ rfl
  replace f_4 := f.at 4 _ rfl
  replace f_5 := f.at 5 _ rfl
  refine (pieces_is_no _ _ _ _ _ 2 _ _ (rv_lit a 6 2 (by decide) (intC (fL [[0, 0, 0, 0, 0, 0], [1, 0, 0, 0, 0, 0]])) rfl) (by decide) (ht.kept hk) Hb.out).mono ?_
  rintro e w1 ⟨o1, c1, rfl, hn⟩
  replace hk := hk.trans hn
  replace m := m.kept hn
  replace i := i.kept hn
  replace f := f.kept hn
  replace a := a.kept hn
  clear hn
  replace m_l := m.lt
  replace m_0 := m.at 0 _ rfl
  replace m_1 := m.at 1 _ rfl
  replace i_l := i.lt
  replace i_0 := i.at 0 _ rfl
  replace i_1 := i.at 1 _ rfl
  replace f_l := f.lt
  replace f_0 := f.at 0 _ rfl
  replace f_1 := f.at 1 _ rfl
  replace f_2 := f.at 2 _ rfl
  replace f_3 := f.at 3 _ rfl
  replace f_4 := f.at 4 _ rfl
  replace f_5 := f.at 5 _ rfl
  clear a
  go_wp2_with fail
  refine with_boxes1 ?_
  intro X hX b
  have hsz := hk.size
  replace hk := hk.trans hX
  replace m := m.kept hX
  replace i := i.kept hX
  replace f := f.kept hX
  clear hX
  replace m_l := m.lt
  replace m_0 := m.at 0 _ rfl
  replace m_1 := m.at 1 _ rfl
  replace i_l := i.lt
  replace i_0 := i.at 0 _ rfl
  replace i_1 := i.at 1 _ rfl
  replace f_l := f.lt
  replace f_0 := f.at 0 _ rfl
  replace f_1 := f.at 1 _ rfl
  replace f_2 := f.at 2 _ rfl
  replace f_3 := f.at 3 _ rfl
  replace f_4 := f.at 4 _ rfl
  replace f_5 := f.at 5 _ rfl
  refine (pieces_is_no _ _ _ _ _ M _ _ (madeFrags b (by have := HM.out; omega)) (by have := HM.out; omega) (ht.kept hk) Hm.out).mono ?_
  rintro e w1 ⟨o2, c2, rfl, hn⟩
  replace hk := hk.trans hn
  replace m := m.kept hn
  replace i := i.kept hn
  replace f := f.kept hn
  replace b := b.kept hn
  clear hn
  replace m_l := m.lt
  replace m_0 := m.at 0 _ rfl
  replace m_1 := m.at 1 _ rfl
  replace i_l := i.lt
  replace i_0 := i.at 0 _ rfl
  replace i_1 := i.at 1 _ rfl
  replace f_l := f.lt
  replace f_0 := f.at 0 _ rfl
  replace f_1 := f.at 1 _ rfl
  replace f_2 := f.at 2 _ rfl
  replace f_3 := f.at 3 _ rfl
  replace f_4 := f.at 4 _ rfl
  replace f_5 := f.at 5 _ rfl
  clear b
  go_wp2_with fail
  refine (num_any _ _).mono ?_
  rintro e w1 ⟨rfl, rfl⟩
  go_wp2_with fail
  refine with_boxes1 ?_
  intro X hX e
  have hsz := hk.size
  replace hk := hk.trans hX
  replace m := m.kept hX
  replace i := i.kept hX
  replace f := f.kept hX
  clear hX
  replace m_l := m.lt
  replace m_0 := m.at 0 _ rfl
  replace m_1 := m.at 1 _ rfl
  replace i_l := i.lt
  replace i_0 := i.at 0 _ rfl
  replace i_1 := i.at 1 _ rfl
  replace f_l := f.lt
  replace f_0 := f.at 0 _ rfl
  replace f_1 := f.at 1 _ rfl
  replace f_2 := f.at 2 _ rfl
  replace f_3 := f.at 3 _ rfl
  replace f_4 := f.at 4 _ rfl
  replace f_5 := f.at 5 _ rfl
  refine (fragMay_is _ 1 _ true _ (rv_lit e 6 1 (by decide) (intC (fL [[1, 0, 0, 0, 0, 0]])) rfl) (by decide) Hf.out).mono ?_
  rintro e w1 ⟨rfl, hn⟩
  replace hk := hk.trans hn
  replace m := m.kept hn
  replace i := i.kept hn
  replace f := f.kept hn
  replace e := e.kept hn
  clear hn
  replace m_l := m.lt
  replace m_0 := m.at 0 _ rfl
  replace m_1 := m.at 1 _ rfl
  replace i_l := i.lt
  replace i_0 := i.at 0 _ rfl
  replace i_1 := i.at 1 _ rfl
  replace f_l := f.lt
  replace f_0 := f.at 0 _ rfl
  replace f_1 := f.at 1 _ rfl
  replace f_2 := f.at 2 _ rfl
  replace f_3 := f.at 3 _ rfl
  replace f_4 := f.at 4 _ rfl
  replace f_5 := f.at 5 _ rfl
  go_wp2_with fail
  refine (num_any _ _).mono ?_
  rintro e w1 ⟨rfl, rfl⟩
  go_wp2
  go_ret
  exact ⟨rfl, hk⟩
set_option maxRecDepth 20000 in
set_option maxHeartbeats 4000000 in
theorem fragForms_8 (c x d : Int) (M : Nat) (hM : Int.toNat 4097 = M) (hi : (IntKind.u64.wrap c).tmod 10 = 8) (q : Int) (hq : bits .and .i64 x 1023 = q) (hqd : 1 + q = d) (d1 : 1 ≤ d) (d2 : d ≤ 1024) (w : World) (ht : Tab w) :
    Calls Tryd.prog 9 #[.int .i64 c, .int .i64 x] w fun e w' => e = .returned (.bool true) ∧ Kept w w' := by
  have hmk := makeFrags 4097 M (by decide) (by decide) hM
  have hM2 : M = 4097 := by omega
  have FB := (show fragB (fL [[1, 0, 0, 0, 0, 1073741824 + d]] 0) = false from by show (inB 0 31 1 && inB (-1) 80 0 && sizedB 0 (1073741824 + d) && mayB 0 && mayB 0) = false; rw [show sizedB 0 (1073741824 + d) = false by unfold sizedB; rw [show inB 0 1073741824 (1073741824 + d) = false from inB_false.2 (by omega)]; rfl]; simp)
  have Hb := Lib.hid (show piecesB 0 0 9 9 2 (fL [[0, 0, 0, 0, 0, 0], [1, 0, 0, 0, 0, 1073741824 + d]]) = false from pieces_may (allF_one 1 (by decide) FB))
  have Hf := Lib.hid (show mayF 1 (fL [[1, 0, 0, 0, 0, 1073741824 + d]]) = false from allF_one 0 (by decide) FB)
  have Hm := Lib.hid (show piecesB 0 0 0 0 M (fun _ _ => 0) = false from pieces_may (many23 (by omega) _))
  have HM := Lib.hid hM2
  clear FB hM hM2
  have hk : Kept w w := Kept.refl w
  go_enter Tryd.func9, Tryd.ntmps9
  go_wp2_with fail
  refine (awake23_any _ (ht.kept hk)).mono ?_
  rintro e w1 ⟨rfl, hn⟩
  replace hk := hk.trans hn
  clear hn
  go_wp2_with fail
  refine with_boxes4 ?_
  intro X hX m i f a
  have hsz := hk.size
  replace hk := hk.trans hX
  clear hX
  replace m_l := m.lt
  replace m_0 := m.at 0 _ rfl
  replace m_1 := m.at 1 _ rfl
  replace i_l := i.lt
  replace i_0 := i.at 0 _ rfl
  replace i_1 := i.at 1 _ rfl
  replace f_l := f.lt
  replace f_0 := f.at 0 _ rfl
  replace f_1 := f.at 1 _ rfl
  replace f_2 := f.at 2 _ rfl
  replace f_3 := f.at 3 _ rfl
  replace f_4 := f.at 4 _ rfl
  replace f_5 := f.at 5 _ rfl
  refine (pieces_is_no _ _ _ _ _ 2 _ _ (rv_lit a 6 2 (by decide) (intC (fL [[0, 0, 0, 0, 0, 0], [1, 0, 0, 0, 0, 1073741824 + d]])) rfl) (by decide) (ht.kept hk) Hb.out).mono ?_
  rintro e w1 ⟨o1, c1, rfl, hn⟩
  replace hk := hk.trans hn
  replace m := m.kept hn
  replace i := i.kept hn
  replace f := f.kept hn
  replace a := a.kept hn
  clear hn
  replace m_l := m.lt
  replace m_0 := m.at 0 _ rfl
  replace m_1 := m.at 1 _ rfl
  replace i_l := i.lt
  replace i_0 := i.at 0 _ rfl
  replace i_1 := i.at 1 _ rfl
  replace f_l := f.lt
  replace f_0 := f.at 0 _ rfl
  replace f_1 := f.at 1 _ rfl
  replace f_2 := f.at 2 _ rfl
  replace f_3 := f.at 3 _ rfl
  replace f_4 := f.at 4 _ rfl
  replace f_5 := f.at 5 _ rfl
  clear a
  go_wp2_with fail
  refine with_boxes1 ?_
  intro X hX b
  have hsz := hk.size
  replace hk := hk.trans hX
  replace m := m.kept hX
  replace i := i.kept hX
  replace f := f.kept hX
  clear hX
  replace m_l := m.lt
  replace m_0 := m.at 0 _ rfl
  replace m_1 := m.at 1 _ rfl
  replace i_l := i.lt
  replace i_0 := i.at 0 _ rfl
  replace i_1 := i.at 1 _ rfl
  replace f_l := f.lt
  replace f_0 := f.at 0 _ rfl
  replace f_1 := f.at 1 _ rfl
  replace f_2 := f.at 2 _ rfl
  replace f_3 := f.at 3 _ rfl
  replace f_4 := f.at 4 _ rfl
  replace f_5 := f.at 5 _ rfl
  refine (pieces_is_no _ _ _ _ _ M _ _ (madeFrags b (by have := HM.out; omega)) (by have := HM.out; omega) (ht.kept hk) Hm.out).mono ?_
  rintro e w1 ⟨o2, c2, rfl, hn⟩
  replace hk := hk.trans hn
  replace m := m.kept hn
  replace i := i.kept hn
  replace f := f.kept hn
  replace b := b.kept hn
  clear hn
  replace m_l := m.lt
  replace m_0 := m.at 0 _ rfl
  replace m_1 := m.at 1 _ rfl
  replace i_l := i.lt
  replace i_0 := i.at 0 _ rfl
  replace i_1 := i.at 1 _ rfl
  replace f_l := f.lt
  replace f_0 := f.at 0 _ rfl
  replace f_1 := f.at 1 _ rfl
  replace f_2 := f.at 2 _ rfl
  replace f_3 := f.at 3 _ rfl
  replace f_4 := f.at 4 _ rfl
  replace f_5 := f.at 5 _ rfl
  clear b
  go_wp2_with fail
  refine (num_any _ _).mono ?_
  rintro e w1 ⟨rfl, rfl⟩
  go_wp2_with fail
  refine with_boxes1 ?_
  intro X hX e
  have hsz := hk.size
  replace hk := hk.trans hX
  replace m := m.kept hX
  replace i := i.kept hX
  replace f := f.kept hX
  clear hX
  replace m_l := m.lt
  replace m_0 := m.at 0 _ rfl
  replace m_1 := m.at 1 _ rfl
  replace i_l := i.lt
  replace i_0 := i.at 0 _ rfl
  replace i_1 := i.at 1 _ rfl
  replace f_l := f.lt
  replace f_0 := f.at 0 _ rfl
  replace f_1 := f.at 1 _ rfl
  replace f_2 := f.at 2 _ rfl
  replace f_3 := f.at 3 _ rfl
  replace f_4 := f.at 4 _ rfl
  replace f_5 := f.at 5 _ rfl
  refine (fragMay_is _ 1 _ false _ (rv_lit e 6 1 (by decide) (intC (fL [[1, 0, 0, 0, 0, 1073741824 + d]])) rfl) (by decide) Hf.out).mono ?_
  rintro e w1 ⟨rfl, hn⟩
  replace hk := hk.trans hn
  replace m := m.kept hn
  replace i := i.kept hn
  replace f := f.kept hn
  replace e := e.kept hn
  clear hn
  replace m_l := m.lt
  replace m_0 := m.at 0 _ rfl
  replace m_1 := m.at 1 _ rfl
  replace i_l := i.lt
  replace i_0 := i.at 0 _ rfl
  replace i_1 := i.at 1 _ rfl
  replace f_l := f.lt
  replace f_0 := f.at 0 _ rfl
  replace f_1 := f.at 1 _ rfl
  replace f_2 := f.at 2 _ rfl
  replace f_3 := f.at 3 _ rfl
  replace f_4 := f.at 4 _ rfl
  replace f_5 := f.at 5 _ rfl
  go_wp2_with fail
  refine (num_any _ _).mono ?_
  rintro e w1 ⟨rfl, rfl⟩
  go_wp2
  go_ret
  exact ⟨rfl, hk⟩
set_option maxRecDepth 20000 in
set_option maxHeartbeats 4000000 in
theorem fragForms_9 (c x d : Int) (M : Nat) (hM : Int.toNat 4097 = M) (hi : (IntKind.u64.wrap c).tmod 10 = 9) (q : Int) (hq : bits .and .i64 x 1023 = q) (hqd : 1 + q = d) (d1 : 1 ≤ d) (d2 : d ≤ 1024) (w : World) (ht : Tab w) :
    Calls Tryd.prog 9 #[.int .i64 c, .int .i64 x] w fun e w' => e = .returned (.bool true) ∧ Kept w w' := by
  have hmk := makeFrags 4097 M (by decide) (by decide) hM
  have hM2 : M = 4097 := by omega
  have FB := True.intro
  have Hb := Lib.hid (show piecesB 0 0 (1073741824 + d) 9 2 (fL [[0, 0, 0, 0, 0, 0], [1, 0, 0, 0, 0, 0]]) = false from pieces_size (show sizedB (1073741824 + d) 9 = false by unfold sizedB; rw [show inB 0 1073741824 (1073741824 + d) = false from inB_false.2 (by omega)]; first | rfl | simp))
  have Hf := Lib.hid (show mayF 1 (fL [[1, 0, 0, 0, 0, 0]]) = true from by decide)
  have Hm := Lib.hid (show piecesB 0 0 0 0 M (fun _ _ => 0) = false from pieces_may (many23 (by omega) _))
  have HM := Lib.hid hM2
  clear FB hM hM2
  have hk : Kept w w := Kept.refl w
  go_enter Tryd.func9, Tryd.ntmps9
  go_wp2_with fail
  refine (awake23_any _ (ht.kept hk)).mono ?_
  rintro e w1 ⟨rfl, hn⟩
  replace hk := hk.trans hn
  clear hn
  go_wp2_with fail
  refine with_boxes4 ?_
  intro X hX m i f a
  have hsz := hk.size
  replace hk := hk.trans hX
  clear hX
  replace m_l := m.lt
  replace m_0 := m.at 0 _ rfl
  replace m_1 := m.at 1 _ rfl
  replace i_l := i.lt
  replace i_0 := i.at 0 _ rfl
  replace i_1 := i.at 1 _ rfl
  replace f_l := f.lt
  replace f_0 := f.at 0 _ rfl
  replace f_1 := f.at 1 _ rfl
  replace f_2 := f.at 2 _ rfl
  replace f_3 := f.at 3 _ rfl
  replace f_4 := f.at 4 _ rfl
  replace f_5 := f.at 5 _ rfl
  refine (pieces_is_no _ _ _ _ _ 2 _ _ (rv_lit a 6 2 (by decide) (intC (fL [[0, 0, 0, 0, 0, 0], [1, 0, 0, 0, 0, 0]])) rfl) (by decide) (ht.kept hk) Hb.out).mono ?_
  rintro e w1 ⟨o1, c1, rfl, hn⟩
  replace hk := hk.trans hn
  replace m := m.kept hn
  replace i := i.kept hn
  replace f := f.kept hn
  replace a := a.kept hn
  clear hn
  replace m_l := m.lt
  replace m_0 := m.at 0 _ rfl
  replace m_1 := m.at 1 _ rfl
  replace i_l := i.lt
  replace i_0 := i.at 0 _ rfl
  replace i_1 := i.at 1 _ rfl
  replace f_l := f.lt
  replace f_0 := f.at 0 _ rfl
  replace f_1 := f.at 1 _ rfl
  replace f_2 := f.at 2 _ rfl
  replace f_3 := f.at 3 _ rfl
  replace f_4 := f.at 4 _ rfl
  replace f_5 := f.at 5 _ rfl
  clear a
  go_wp2_with fail
  refine with_boxes1 ?_
  intro X hX b
  have hsz := hk.size
  replace hk := hk.trans hX
  replace m := m.kept hX
  replace i := i.kept hX
  replace f := f.kept hX
  clear hX
  replace m_l := m.lt
  replace m_0 := m.at 0 _ rfl
  replace m_1 := m.at 1 _ rfl
  replace i_l := i.lt
  replace i_0 := i.at 0 _ rfl
  replace i_1 := i.at 1 _ rfl
  replace f_l := f.lt
  replace f_0 := f.at 0 _ rfl
  replace f_1 := f.at 1 _ rfl
  replace f_2 := f.at 2 _ rfl
  replace f_3 := f.at 3 _ rfl
  replace f_4 := f.at 4 _ rfl
  replace f_5 := f.at 5 _ rfl
  refine (pieces_is_no _ _ _ _ _ M _ _ (madeFrags b (by have := HM.out; omega)) (by have := HM.out; omega) (ht.kept hk) Hm.out).mono ?_
  rintro e w1 ⟨o2, c2, rfl, hn⟩
  replace hk := hk.trans hn
  replace m := m.kept hn
  replace i := i.kept hn
  replace f := f.kept hn
  replace b := b.kept hn
  clear hn
  replace m_l := m.lt
  replace m_0 := m.at 0 _ rfl
  replace m_1 := m.at 1 _ rfl
  replace i_l := i.lt
  replace i_0 := i.at 0 _ rfl
  replace i_1 := i.at 1 _ rfl
  replace f_l := f.lt
  replace f_0 := f.at 0 _ rfl
  replace f_1 := f.at 1 _ rfl
  replace f_2 := f.at 2 _ rfl
  replace f_3 := f.at 3 _ rfl
  replace f_4 := f.at 4 _ rfl
  replace f_5 := f.at 5 _ rfl
  clear b
  go_wp2_with fail
  refine (num_any _ _).mono ?_
  rintro e w1 ⟨rfl, rfl⟩
  go_wp2_with fail
  refine with_boxes1 ?_
  intro X hX e
  have hsz := hk.size
  replace hk := hk.trans hX
  replace m := m.kept hX
  replace i := i.kept hX
  replace f := f.kept hX
  clear hX
  replace m_l := m.lt
  replace m_0 := m.at 0 _ rfl
  replace m_1 := m.at 1 _ rfl
  replace i_l := i.lt
  replace i_0 := i.at 0 _ rfl
  replace i_1 := i.at 1 _ rfl
  replace f_l := f.lt
  replace f_0 := f.at 0 _ rfl
  replace f_1 := f.at 1 _ rfl
  replace f_2 := f.at 2 _ rfl
  replace f_3 := f.at 3 _ rfl
  replace f_4 := f.at 4 _ rfl
  replace f_5 := f.at 5 _ rfl
  refine (fragMay_is _ 1 _ true _ (rv_lit e 6 1 (by decide) (intC (fL [[1, 0, 0, 0, 0, 0]])) rfl) (by decide) Hf.out).mono ?_
  rintro e w1 ⟨rfl, hn⟩
  replace hk := hk.trans hn
  replace m := m.kept hn
  replace i := i.kept hn
  replace f := f.kept hn
  replace e := e.kept hn
  clear hn
  replace m_l := m.lt
  replace m_0 := m.at 0 _ rfl
  replace m_1 := m.at 1 _ rfl
  replace i_l := i.lt
  replace i_0 := i.at 0 _ rfl
  replace i_1 := i.at 1 _ rfl
  replace f_l := f.lt
  replace f_0 := f.at 0 _ rfl
  replace f_1 := f.at 1 _ rfl
  replace f_2 := f.at 2 _ rfl
  replace f_3 := f.at 3 _ rfl
  replace f_4 := f.at 4 _ rfl
  replace f_5 := f.at 5 _ rfl
  go_wp2_with fail
  refine (num_any _ _).mono ?_
  rintro e w1 ⟨rfl, rfl⟩
  go_wp2
  go_ret
  exact ⟨rfl, hk⟩
theorem fragForms_walk (c x : Int) (w : World) (ht : Tab w) :
    Calls Tryd.prog 9 #[.int .i64 c, .int .i64 x] w fun e w' => e = .returned (.bool true) ∧ Kept w w' := by
  obtain ⟨i, hi, i0, i1⟩ := urest2 c 10 (by decide)
  obtain ⟨q, hq, q0, q1⟩ := masked x 10 1023 (by decide) (by decide)
  obtain ⟨M, hM⟩ : ∃ M, Int.toNat 4097 = M := ⟨_, rfl⟩
  rcases (by omega : i = 0 ∨ i = 1 ∨ i = 2 ∨ i = 3 ∨ i = 4 ∨ i = 5 ∨ i = 6 ∨ i = 7 ∨ i = 8 ∨ i = 9) with rfl | rfl | rfl | rfl | rfl | rfl | rfl | rfl | rfl | rfl
  · exact fragForms_0 c x (1 + q) M hM hi q hq rfl (by omega) (by omega) w ht
  · exact fragForms_1 c x (1 + q) M hM hi q hq rfl (by omega) (by omega) w ht
  · exact fragForms_2 c x (1 + q) M hM hi q hq rfl (by omega) (by omega) w ht
  · exact fragForms_3 c x (1 + q) M hM hi q hq rfl (by omega) (by omega) w ht
  · exact fragForms_4 c x (1 + q) M hM hi q hq rfl (by omega) (by omega) w ht
  · exact fragForms_5 c x (1 + q) M hM hi q hq rfl (by omega) (by omega) w ht
  · exact fragForms_6 c x (1 + q) M hM hi q hq rfl (by omega) (by omega) w ht
  · exact fragForms_7 c x (1 + q) M hM hi q hq rfl (by omega) (by omega) w ht
  · exact fragForms_8 c x (1 + q) M hM hi q hq rfl (by omega) (by omega) w ht
  · exact fragForms_9 c x (1 + q) M hM hi q hq rfl (by omega) (by omega) w ht
end Go.Proofs.YtpeoadnnemlphaaDoor
