/- Layer 7: by how much the gaps of a line grow. -/
import Derived.Test.YtkapmnbkmljpkaeAlign
namespace Go.Proofs.Ytkapmnbkmljpkae
open Go.RowKit
set_option linter.unusedSimpArgs false
set_option linter.unusedVariables false
theorem intInfo : (Try.prog.info? 3).map (fun i => (i.zero, i.size, i.bytes)) = some (some (.int .i64 0), 1, 8) := by kernel_rfl
def sprB (how room adv gaps : Int) : Bool := almB how room adv && inB 0 80 gaps
/-- what is spread upon gap i, of l upon n -/
def spreadAt (l : Int) (n i : Nat) : Int := l / n + (if (i : Int) < l % n then 1 else 0)
def spreadXs (how room adv : Int) (n : Nat) (last : Bool) : List Int := if how = 3 ∧ last = false then (List.range n).map (spreadAt (leftS room adv) n) else List.replicate n 0
def sprXs (how room adv gaps : Int) (last : Bool) : List Int := if sprB how room adv gaps = true then spreadXs how room adv gaps.toNat last else []
def sprE (how room adv gaps : Int) : Int := if sprB how room adv gaps = true then 0 else 700
theorem spreadXs_len (how room adv : Int) (n : Nat) (last : Bool) : (spreadXs how room adv n last).length = n := by unfold spreadXs; split <;> simp
def Spreads (how room adv gaps : Int) (last : Bool) (w : World) (e : Ending) (w' : World) : Prop :=
  ∃ v, e = .returned (.tuple #[v, .int .i64 (sprE how room adv gaps)]) ∧ NewInts w w' v (sprXs how room adv gaps last) ∧ Kept w w'
theorem newInts_row {w wx : World} {g n : Nat} {t : TypeId} {f : Nat → Value} {xs : List Int} (h : wx.rowIs g t n f) (hg : w.heap.size ≤ g) (hl : xs.length = n) (hf : ∀ j, j < n → f j = .int .i64 (xs.getD j 0)) :
    NewInts w wx (.slice (some ⟨g, 0, none⟩) n n) xs := by
  subst hl
  exact .inr ⟨g, _, rfl, hg, h.lt, fun j hj => by rw [Nat.zero_add, h.cell hj, hf j hj]⟩
theorem newInts_own {w wx : World} {v : Value} {n : Nat} {xs : List Int} (h : wx.ownsRow w.heap.size 3 1 v n (xs.map (Value.int .i64))) : NewInts w wx v xs := by
  have hl := h.1
  simp at hl
  rcases h.2 with ⟨hv, h0⟩ | ⟨g, cap, cur, hv, hg, hb, _⟩
  · exact .inl ⟨hv, List.eq_nil_of_length_eq_zero (by omega)⟩
  · subst hv
    subst hl
    refine .inr ⟨g, cap, rfl, hg, (Array.getElem?_eq_some_iff.1 hb).1, fun j hj => ?_⟩
    rw [Nat.zero_add]
    have := h.cells (g := g) rfl j (.int .i64 (xs.getD j 0)) (by simp [List.getD_eq_getElem?_getD, hj])
    have e : ((⟨g, 0, none⟩ : Addr).add j) = ⟨g, j, none⟩ := by
      unfold Addr.add
      by_cases h : j = 0
      · subst h; rfl
      · rw [if_neg h]; simp
    rwa [e] at this
theorem sprNo {how room adv gaps : Int} {last : Bool} (h : sprB how room adv gaps = false) (w w' : World) (k : Kept w w') : Spreads how room adv gaps last w (.returned (.tuple #[.slice none 0 0, .int .i64 700])) w' :=
  ⟨_, by unfold sprE; rw [h]; rfl, .inl ⟨rfl, by unfold sprXs; rw [h]; rfl⟩, k⟩
theorem spread_no1 (how room adv gaps : Int) (last : Bool) (w : World) (h : almB how room adv = false) :
    Calls Try.prog 10 #[.int .i64 how, .int .i64 room, .int .i64 adv, .int .i64 gaps, .bool last] w (Spreads how room adv gaps last w) := by
  have hs : sprB how room adv gaps = false := by unfold sprB; rw [h]; rfl
  have Hs := Lib.hid hs
  clear hs
  have hk : Kept w w := Kept.refl w
  go_enter Try.func10, Try.ntmps10
  go_wp2_with fail
  refine (alignMay_any _ _ _ _).mono ?_
  rintro e w1 ⟨rfl, hn⟩
  replace hk := hk.trans hn
  clear hn
  go_wp2
  go_ret2
  exact sprNo Hs.out _ _ (by first | ((repeat (first | with_reducible exact hk | with_reducible refine Kept.alloc ?_ _ | with_reducible refine Kept.drew ?_ | with_reducible refine Kept.drewN ?_ _ | with_reducible refine Kept.set ?_ (by first | (simp; done) | (simp; omega) | omega) _)); done) | exact hk | exact (hk.alloc _) | exact ((hk.alloc _).alloc _) | exact (((hk.alloc _).alloc _).alloc _) | exact ((((hk.alloc _).alloc _).alloc _).alloc _) | exact (((((hk.alloc _).alloc _).alloc _).alloc _).alloc _) | exact ((((((hk.alloc _).alloc _).alloc _).alloc _).alloc _).alloc _) | (repeat (first | exact hk | refine Kept.alloc ?_ _ | refine Kept.drew ?_ | refine Kept.drewN ?_ _ | refine Kept.set ?_ (by first | (simp; done) | (simp; omega) | omega) _)))
theorem spread_no2 (how room adv gaps : Int) (last : Bool) (w : World) (h : almB how room adv = true) (h2 : inB 0 80 gaps = false) :
    Calls Try.prog 10 #[.int .i64 how, .int .i64 room, .int .i64 adv, .int .i64 gaps, .bool last] w (Spreads how room adv gaps last w) := by
  have hs : sprB how room adv gaps = false := by unfold sprB; rw [h, h2]; rfl
  have Hs := Lib.hid hs
  clear hs
  have hk : Kept w w := Kept.refl w
  go_enter Try.func10, Try.ntmps10
  go_wp2_with fail
  refine (alignMay_any _ _ _ _).mono ?_
  rintro e w1 ⟨rfl, hn⟩
  replace hk := hk.trans hn
  clear hn
  go_wp2_with fail
  refine with_boxes1 ?_
  intro X hX p
  have hsz := hk.size
  replace hk := hk.trans hX
  clear hX
  replace p_l := p.lt
  replace p_0 := p.at 0 _ rfl
  refine (each1_any _ _ _ _ _ p_0).mono ?_
  rintro e w1 ⟨rfl, rfl⟩
  go_wp2
  go_ret2
  exact sprNo Hs.out _ _ (by first | ((repeat (first | with_reducible exact hk | with_reducible refine Kept.alloc ?_ _ | with_reducible refine Kept.drew ?_ | with_reducible refine Kept.drewN ?_ _ | with_reducible refine Kept.set ?_ (by first | (simp; done) | (simp; omega) | omega) _)); done) | exact hk | exact (hk.alloc _) | exact ((hk.alloc _).alloc _) | exact (((hk.alloc _).alloc _).alloc _) | exact ((((hk.alloc _).alloc _).alloc _).alloc _) | exact (((((hk.alloc _).alloc _).alloc _).alloc _).alloc _) | exact ((((((hk.alloc _).alloc _).alloc _).alloc _).alloc _).alloc _) | (repeat (first | exact hk | refine Kept.alloc ?_ _ | refine Kept.drew ?_ | refine Kept.drewN ?_ _ | refine Kept.set ?_ (by first | (simp; done) | (simp; omega) | omega) _)))
theorem sprYes {how room adv : Int} {n : Nat} {last : Bool} {w w' : World} {v : Value} (h : sprB how room adv n = true) (hv : NewInts w w' v (spreadXs how room adv n last)) (k : Kept w w') :
    Spreads how room adv n last w (.returned (.tuple #[v, .int .i64 0])) w' :=
  ⟨_, by unfold sprE; rw [h]; rfl, by unfold sprXs; rw [h]; simpa using hv, k⟩
set_option maxHeartbeats 1000000 in
theorem spread_plain (how room adv : Int) (n : Nat) (last : Bool) (w : World) (h : almB how room adv = true) (h2 : inB 0 80 (n : Int) = true) (h3 : ¬ (how = 3 ∧ last = false)) :
    Calls Try.prog 10 #[.int .i64 how, .int .i64 room, .int .i64 adv, .int .i64 (n : Int), .bool last] w (Spreads how room adv n last w) := by
  have hs : sprB how room adv n = true := by unfold sprB; rw [h, h2]; rfl
  have Hs := Lib.hid hs
  clear hs
  have hxs : spreadXs how room adv n last = List.replicate n 0 := if_neg h3
  have Hxs := Lib.hid hxs
  clear hxs
  have hn : n ≤ 80 := by have := (inB_true.1 h2).2; omega
  have hmk := run_make_row' (P := Try.prog) 27 3 (.int .i64 0) 8 Try.underlying27 intInfo rfl .i64 .i64 n (by omega) (by omega)
  by_cases h4 : how = 3
  · obtain rfl : last = true := by cases last <;> simp_all
    subst h4
    clear h3
    have hk : Kept w w := Kept.refl w
    go_enter Try.func10, Try.ntmps10
    go_wp2_with fail
    refine (alignMay_any _ _ _ _).mono ?_
    rintro e w1 ⟨rfl, hn⟩
    replace hk := hk.trans hn
    clear hn
    go_wp2_with fail
    refine with_boxes1 ?_
    intro X hX p
    have hsz := hk.size
    replace hk := hk.trans hX
    clear hX
    replace p_l := p.lt
    replace p_0 := p.at 0 _ rfl
    refine (each1_any _ _ _ _ _ p_0).mono ?_
    rintro e w1 ⟨rfl, rfl⟩
    go_wp2
    go_ret2
    have hz := hk.size
    exact sprYes Hs.out (newInts_row (World.rowIs_made _ _ _ _) (by omega) (by rw [Hxs.out]; simp) (by intro j hj; rw [Hxs.out]; simp [List.getD_eq_getElem?_getD, hj])) (by first | ((repeat (first | with_reducible exact hk | with_reducible refine Kept.alloc ?_ _ | with_reducible refine Kept.drew ?_ | with_reducible refine Kept.drewN ?_ _ | with_reducible refine Kept.set ?_ (by first | (simp; done) | (simp; omega) | omega) _)); done) | exact hk | exact (hk.alloc _) | exact ((hk.alloc _).alloc _) | exact (((hk.alloc _).alloc _).alloc _) | exact ((((hk.alloc _).alloc _).alloc _).alloc _) | exact (((((hk.alloc _).alloc _).alloc _).alloc _).alloc _) | exact ((((((hk.alloc _).alloc _).alloc _).alloc _).alloc _).alloc _) | (repeat (first | exact hk | refine Kept.alloc ?_ _ | refine Kept.drew ?_ | refine Kept.drewN ?_ _ | refine Kept.set ?_ (by first | (simp; done) | (simp; omega) | omega) _)))
  · clear h3
    have hk : Kept w w := Kept.refl w
    go_enter Try.func10, Try.ntmps10
    go_wp2_with fail
    refine (alignMay_any _ _ _ _).mono ?_
    rintro e w1 ⟨rfl, hn⟩
    replace hk := hk.trans hn
    clear hn
    go_wp2_with fail
    refine with_boxes1 ?_
    intro X hX p
    have hsz := hk.size
    replace hk := hk.trans hX
    clear hX
    replace p_l := p.lt
    replace p_0 := p.at 0 _ rfl
    refine (each1_any _ _ _ _ _ p_0).mono ?_
    rintro e w1 ⟨rfl, rfl⟩
    go_wp2
    go_ret2
    have hz := hk.size
    exact sprYes Hs.out (newInts_row (World.rowIs_made _ _ _ _) (by omega) (by rw [Hxs.out]; simp) (by intro j hj; rw [Hxs.out]; simp [List.getD_eq_getElem?_getD, hj])) (by first | ((repeat (first | with_reducible exact hk | with_reducible refine Kept.alloc ?_ _ | with_reducible refine Kept.drew ?_ | with_reducible refine Kept.drewN ?_ _ | with_reducible refine Kept.set ?_ (by first | (simp; done) | (simp; omega) | omega) _)); done) | exact hk | exact (hk.alloc _) | exact ((hk.alloc _).alloc _) | exact (((hk.alloc _).alloc _).alloc _) | exact ((((hk.alloc _).alloc _).alloc _).alloc _) | exact (((((hk.alloc _).alloc _).alloc _).alloc _).alloc _) | exact ((((((hk.alloc _).alloc _).alloc _).alloc _).alloc _).alloc _) | (repeat (first | exact hk | refine Kept.alloc ?_ _ | refine Kept.drew ?_ | refine Kept.drewN ?_ _ | refine Kept.set ?_ (by first | (simp; done) | (simp; omega) | omega) _)))
end Go.Proofs.Ytkapmnbkmljpkae
