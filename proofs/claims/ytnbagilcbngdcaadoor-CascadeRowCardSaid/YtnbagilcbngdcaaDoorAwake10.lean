/- Layer 10: awake. -/
import Derived.Test.YtnbagilcbngdcaaDoorRefApply10
import Derived.Test.YtnbagilcbngdcaaDoorStyEq
import Derived.Test.YtnbagilcbngdcaaDoorMg1
namespace Go.Proofs.YtnbagilcbngdcaaDoor
open Go.RowKit
set_option linter.unusedSimpArgs false
set_option linter.unusedVariables false
set_option maxHeartbeats 4000000
set_option maxRecDepth 20000
theorem refApply_any (wm di : Int) (v : Value) (n : Nat) (P : Nat → Int) (T : Nat → ByteArray) (w : World) (hv : RV 2 w v n (declC P T)) (hT : ∀ i, i < n → (T i).size ≤ 140737488355328) :
    Calls Tryd.prog 19 #[modeV wm di, v] w fun e w' => e = .returned (.tuple #[(applyS wm di n P T).1.V, .int .i64 (applyS wm di n P T).2]) ∧ Kept w w' := by
  obtain ⟨o, cap, rfl⟩ := hv.shape
  cases hm : modeMayB wm di with
  | false =>
    rw [show applyS wm di n P T = (zeroS, 1000) from if_neg (by unfold declsB; rw [hm]; simp)]
    exact refApply_bad wm di o n cap w (.inl hm)
  | true =>
    by_cases hn : n ≤ 16
    · exact refApply_ok wm di o n cap P T w hv hm hn hT
    · rw [show applyS wm di n P T = (zeroS, 1000) from if_neg (by unfold declsB; rw [decide_eq_false hn]; simp)]
      exact refApply_bad wm di o n cap w (.inr (by omega))
theorem apply_is (wr di : Int) (v : Value) (n : Nat) (P : Nat → Int) (T : Nat → ByteArray) (s : Sty) (E : Int) (w : World) (hv : RV 2 w v n (declC P T)) (hn : n ≤ 4611686018427387904) (ht : TabN w) (hp : Pow w) (hT : ∀ i, i < n → (T i).size ≤ 140737488355328) (h : applyS wr di n P T = (s, E)) :
    Calls Tryd.prog 18 #[modeV wr di, v] w fun e w' => e = .returned (.tuple #[s.V, .int .i64 E]) ∧ Kept w w' := by
  have := apply_any wr di v n P T w hv hn ht hp hT
  rwa [h] at this
theorem refApply_is (wr di : Int) (v : Value) (n : Nat) (P : Nat → Int) (T : Nat → ByteArray) (s : Sty) (E : Int) (w : World) (hv : RV 2 w v n (declC P T)) (hT : ∀ i, i < n → (T i).size ≤ 140737488355328) (h : applyS wr di n P T = (s, E)) :
    Calls Tryd.prog 19 #[modeV wr di, v] w fun e w' => e = .returned (.tuple #[s.V, .int .i64 E]) ∧ Kept w w' := by
  have := refApply_any wr di v n P T w hv hT
  rwa [h] at this
/-- declarations written out -/
def litP (l : List (Int × ByteArray)) (i : Nat) : Int := (l.getD i (0, ⟨#[]⟩)).1
def litT (l : List (Int × ByteArray)) (i : Nat) : ByteArray := (l.getD i (0, ⟨#[]⟩)).2
theorem litT_size {l : List (Int × ByteArray)} (h : l.all (fun x => decide (x.2.size ≤ 100)) = true) (i : Nat) : (litT l i).size ≤ 140737488355328 := by
  unfold litT
  rw [List.getD_eq_getElem?_getD]
  cases hx : l[i]? with
  | none => decide
  | some x =>
    have := List.all_eq_true.1 h x (List.mem_of_getElem? hx)
    have := of_decide_eq_true this
    show x.2.size ≤ _
    omega
def d10 : List (Int × ByteArray) := [(2, ⟨#[52, 48]⟩), (13, ⟨#[45, 51]⟩), (18, ⟨#[45, 49]⟩), (25, ⟨#[108, 101, 102, 116]⟩), (28, ⟨#[119, 114, 97, 112]⟩), (23, ⟨#[50]⟩)]
def s10 : Sty := ⟨⟨1, 40⟩, ⟨0, 0⟩, ⟨1, 0⟩, ⟨0, 0⟩, ⟨1, 0⟩, ⟨1, -3⟩, ⟨1, 0⟩, ⟨1, 0⟩, ⟨1, 0⟩, ⟨1, 0⟩, ⟨1, 0⟩, ⟨1, 0⟩, ⟨0, 0⟩, 2, 1, 1, 0, 0, true⟩
theorem d10_is : applyS 0 1 6 (litP d10) (litT d10) = (s10, 0) := by kernel_rfl
def d10b : List (Int × ByteArray) := [(29, ⟨#[]⟩)]
theorem d10b_is : applyS 0 1 1 (litP d10b) (litT d10b) = (zeroS, 1000) := by kernel_rfl
theorem awake10_any (w : World) (ht : TabN w) (hp : Pow w) :
    Calls Tryd.prog 25 #[] w fun e w' => e = .returned (.bool true) ∧ Kept w w' := by
  have hq := fun (s : Sty) (w : World) => eql_sty s w
  have hk : Kept w w := Kept.refl w
  go_enter Tryd.func25, Tryd.ntmps25
  go_wp2_with fail
  refine with_boxes2 ?_
  intro X hX m d
  have hsz := hk.size
  replace hk := hk.trans hX
  clear hX
  replace m_l := m.lt
  replace m_0 := m.at 0 _ rfl
  replace m_1 := m.at 1 _ rfl
  refine (apply_is 0 1 _ 6 (litP d10) (litT d10) _ _ _ (rv_lit d 2 6 (by decide) (declC (litP d10) (litT d10)) rfl) (by decide) (ht.kept hk) (hp.kept hk) (fun i _ => litT_size rfl i) d10_is).mono ?_
  rintro e w1 ⟨rfl, hn⟩
  replace hk := hk.trans hn
  replace m := m.kept hn
  replace d := d.kept hn
  clear hn
  replace m_l := m.lt
  replace m_0 := m.at 0 _ rfl
  replace m_1 := m.at 1 _ rfl
  clear d
  go_wp2_with (first | (refine here_store 42 _ _ rfl ?_; refine wpList_store_own rfl 42 _ _ rfl _ _ rfl rfl (Own.new _ _ _) (by rfl) (by kernel_rfl) (by rfl) ?_; intro X a hoX hkX; have hsz := hk.size; replace hk := hkX _ (hk.alloc _) (by first | omega | (simp; omega)); have m_l := m.lt; replace m := (m.alloc _).same (hoX _ (by first | omega | (simp; omega))); clear hoX hkX; replace m_l := m.lt; replace m_0 := m.at 0 _ rfl; replace m_1 := m.at 1 _ rfl))
  go_wp2_with fail
  refine with_boxes1 ?_
  intro X hX e
  have hsz := hk.size
  replace hk := hk.trans hX
  replace m := m.kept hX
  replace a := a.kept hX
  clear hX
  replace m_l := m.lt
  replace m_0 := m.at 0 _ rfl
  replace m_1 := m.at 1 _ rfl
  refine (apply_is 0 1 _ 1 (litP d10b) (litT d10b) _ _ _ (rv_lit e 2 1 (by decide) (declC (litP d10b) (litT d10b)) rfl) (by decide) (ht.kept hk) (hp.kept hk) (fun i _ => litT_size rfl i) d10b_is).mono ?_
  rintro e w1 ⟨rfl, hn⟩
  replace hk := hk.trans hn
  replace m := m.kept hn
  replace a := a.kept hn
  replace e := e.kept hn
  clear hn
  replace m_l := m.lt
  replace m_0 := m.at 0 _ rfl
  replace m_1 := m.at 1 _ rfl
  clear e
  go_wp2_with (first | (refine here_store 42 _ _ rfl ?_; refine wpList_store_own rfl 42 _ _ rfl _ _ rfl rfl (Own.new _ _ _) (by rfl) (by kernel_rfl) (by rfl) ?_; intro X b hoX hkX; have hsz := hk.size; replace hk := hkX _ (hk.alloc _) (by first | omega | (simp; omega)); have m_l := m.lt; replace m := (m.alloc _).same (hoX _ (by first | omega | (simp; omega))); have a_l := a.lt; replace a := (a.alloc _).same (hoX _ (by first | omega | (simp; omega))); clear hoX hkX; replace m_l := m.lt; replace m_0 := m.at 0 _ rfl; replace m_1 := m.at 1 _ rfl))
  go_wp2_with fail
  refine (newStyle_any _).mono ?_
  rintro e w1 ⟨rfl, hn⟩
  replace hk := hk.trans hn
  replace m := m.kept hn
  replace a := a.kept hn
  replace b := b.kept hn
  clear hn
  replace m_l := m.lt
  replace m_0 := m.at 0 _ rfl
  replace m_1 := m.at 1 _ rfl
  go_upto_region 5 with (first | (refine here_store 42 _ _ rfl ?_; refine wpList_store_own rfl 42 _ _ rfl _ _ rfl rfl (Own.new _ _ _) (by rfl) (by kernel_rfl) (by rfl) ?_; intro X c hoX hkX; have hsz := hk.size; replace hk := hkX _ (hk.alloc _) (by first | omega | (simp; omega)); have m_l := m.lt; replace m := (m.alloc _).same (hoX _ (by first | omega | (simp; omega))); have a_l := a.lt; replace a := (a.alloc _).same (hoX _ (by first | omega | (simp; omega))); have b_l := b.lt; replace b := (b.alloc _).same (hoX _ (by first | omega | (simp; omega))); clear hoX hkX; replace m_l := m.lt; replace m_0 := m.at 0 _ rfl; replace m_1 := m.at 1 _ rfl))
  have c_l := c.lt
  have g0 := c.at 0 _ rfl
  have f0 := c.free 0
  have g1 := c.at 1 _ rfl
  have f1 := c.free 1
  have g10 := c.at 10 _ rfl
  have f10 := c.free 10
  have g11 := c.at 11 _ rfl
  have f11 := c.free 11
  have g28 := c.at 28 _ rfl
  have f28 := c.free 28
  have g31 := c.at 31 _ rfl
  have f31 := c.free 31
  have g26 := c.at 26 _ rfl
  have f26 := c.free 26
  go_upto_region 10 with fail
  refine code_eq ?_
  intro X eX
  have hsz := hk.size
  replace hk := (eX ▸ (by first | ((repeat (first | with_reducible exact hk | with_reducible refine Kept.alloc ?_ _ | with_reducible refine Kept.drew ?_ | with_reducible refine Kept.drewN ?_ _ | with_reducible refine Kept.set ?_ (by first | (simp; done) | (simp; omega) | omega) _)); done) | exact hk | exact (hk.alloc _) | exact ((hk.alloc _).alloc _) | exact (((hk.alloc _).alloc _).alloc _) | exact ((((hk.alloc _).alloc _).alloc _).alloc _) | exact (((((hk.alloc _).alloc _).alloc _).alloc _).alloc _) | exact ((((((hk.alloc _).alloc _).alloc _).alloc _).alloc _).alloc _) | (repeat (first | exact hk | refine Kept.alloc ?_ _ | refine Kept.drew ?_ | refine Kept.drewN ?_ _ | refine Kept.set ?_ (by first | (simp; done) | (simp; omega) | omega) _))) : Kept w X)
  replace m := m.same (X := X) (by rw [eX]; repeat (first | with_reducible rfl | with_reducible refine (Below.heap_setCell _ _ _ _ (by first | omega | (simp; done) | (simp; omega))).trans ?_ | with_reducible refine (heap_drew_ _ _).trans ?_ | with_reducible refine (heap_drewN_ _ _ _).trans ?_))
  replace a := a.same (X := X) (by rw [eX]; repeat (first | with_reducible rfl | with_reducible refine (Below.heap_setCell _ _ _ _ (by first | omega | (simp; done) | (simp; omega))).trans ?_ | with_reducible refine (heap_drew_ _ _).trans ?_ | with_reducible refine (heap_drewN_ _ _ _).trans ?_))
  replace b := b.same (X := X) (by rw [eX]; repeat (first | with_reducible rfl | with_reducible refine (Below.heap_setCell _ _ _ _ (by first | omega | (simp; done) | (simp; omega))).trans ?_ | with_reducible refine (heap_drew_ _ _).trans ?_ | with_reducible refine (heap_drewN_ _ _ _).trans ?_))
  replace c : Own X _ _ s10.C := eX ▸ (((((((((c.set 0 _).set 1 _).set 10 _).set 11 _).set 28 _).set 31 _).set 26 _)).is (by rfl))
  clear eX
  replace m_l := m.lt
  replace m_0 := m.at 0 _ rfl
  replace m_1 := m.at 1 _ rfl
  clear g0 f0 g1 f1 g10 f10 g11 f11 g28 f28 g31 f31 g26 f26
  have hmay := Lib.hid (show mayS s10 = true by kernel_rfl)
  go_wp2_with (first | (refine here_load 42 _ rfl ?_; refine wpList_load_own rfl 42 _ rfl _ rfl a _ Tryd.underlying42 rfl (by kernel_rfl) ?_) | (refine here_load 42 _ rfl ?_; refine wpList_load_own rfl 42 _ rfl _ rfl c _ Tryd.underlying42 rfl (by kernel_rfl) ?_))
  go_wp2_with fail
  refine (num_any _ _).mono ?_
  rintro e w1 ⟨rfl, rfl⟩
  go_wp2_with fail
  refine (num_any _ _).mono ?_
  rintro e w1 ⟨rfl, rfl⟩
  go_wp2_with fail
  refine (cascadeNew_any _).mono ?_
  rintro e w1 ⟨rfl, hn⟩
  replace hk := hk.trans hn
  replace m := m.kept hn
  replace a := a.kept hn
  replace b := b.kept hn
  replace c := c.kept hn
  clear hn
  replace m_l := m.lt
  replace m_0 := m.at 0 _ rfl
  replace m_1 := m.at 1 _ rfl
  go_wp2_with fail
  refine (newStyle_any _).mono ?_
  rintro e w1 ⟨rfl, hn⟩
  replace hk := hk.trans hn
  replace m := m.kept hn
  replace a := a.kept hn
  replace b := b.kept hn
  replace c := c.kept hn
  clear hn
  replace m_l := m.lt
  replace m_0 := m.at 0 _ rfl
  replace m_1 := m.at 1 _ rfl
  go_wp2_with (refine here_load 42 _ rfl ?_; refine wpList_load_own_if 42 _ rfl (by rfl) _ rfl a _ Tryd.underlying42 rfl (by kernel_rfl) ?_)
  go_wp2_with fail
  refine (cascadeMay_is s10 true _ hmay.out).mono ?_
  rintro e w1 ⟨rfl, hn⟩
  replace hk := hk.trans hn
  replace m := m.kept hn
  replace a := a.kept hn
  replace b := b.kept hn
  replace c := c.kept hn
  clear hn
  replace m_l := m.lt
  replace m_0 := m.at 0 _ rfl
  replace m_1 := m.at 1 _ rfl
  go_wp2
  go_ret
  exact ⟨rfl, hk⟩
end Go.Proofs.YtnbagilcbngdcaaDoor
