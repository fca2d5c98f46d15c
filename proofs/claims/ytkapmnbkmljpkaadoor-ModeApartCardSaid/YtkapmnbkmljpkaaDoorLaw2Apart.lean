/- Layer 2: no two modes have the same edges for their beginnings. -/
import Derived.Test.YtkapmnbkmljpkaaDoorModes6
import Derived.Test.YtkapmnbkmljpkaaDoorBoxes
namespace Go.Proofs.YtkapmnbkmljpkaaDoor
open Go.RowKit
theorem Own.is {w : World} {b : Nat} {t : TypeId} {cs ds : Array Value} (h : Own w b t cs) (e : cs = ds) : Own w b t ds := e ▸ h
def marks (k : Nat) : Array Value :=
  if k = 0 then #[.int .i64 0, .int .i64 0, .int .i64 0, .int .i64 0, .int .i64 0, .int .i64 0, .int .i64 0, .int .i64 0, .int .i64 0, .int .i64 0, .int .i64 0, .int .i64 0, .int .i64 0, .int .i64 0, .int .i64 0, .int .i64 0]
  else if k = 1 then #[.int .i64 0, .int .i64 0, .int .i64 0, .int .i64 0, .int .i64 0, .int .i64 0, .int .i64 0, .int .i64 0, .int .i64 0, .int .i64 0, .int .i64 0, .int .i64 0, .int .i64 1, .int .i64 0, .int .i64 0, .int .i64 0]
  else if k = 2 then #[.int .i64 0, .int .i64 0, .int .i64 0, .int .i64 0, .int .i64 1, .int .i64 0, .int .i64 0, .int .i64 0, .int .i64 0, .int .i64 0, .int .i64 0, .int .i64 0, .int .i64 1, .int .i64 0, .int .i64 0, .int .i64 0]
  else if k = 3 then #[.int .i64 0, .int .i64 1, .int .i64 0, .int .i64 0, .int .i64 1, .int .i64 0, .int .i64 0, .int .i64 0, .int .i64 0, .int .i64 0, .int .i64 0, .int .i64 0, .int .i64 1, .int .i64 0, .int .i64 0, .int .i64 0]
  else if k = 4 then #[.int .i64 0, .int .i64 1, .int .i64 0, .int .i64 0, .int .i64 1, .int .i64 0, .int .i64 0, .int .i64 0, .int .i64 0, .int .i64 1, .int .i64 0, .int .i64 0, .int .i64 1, .int .i64 0, .int .i64 0, .int .i64 0]
  else if k = 5 then #[.int .i64 0, .int .i64 1, .int .i64 0, .int .i64 1, .int .i64 1, .int .i64 0, .int .i64 0, .int .i64 0, .int .i64 0, .int .i64 1, .int .i64 0, .int .i64 0, .int .i64 1, .int .i64 0, .int .i64 0, .int .i64 0]
  else if k = 6 then #[.int .i64 0, .int .i64 1, .int .i64 0, .int .i64 1, .int .i64 1, .int .i64 0, .int .i64 0, .int .i64 0, .int .i64 0, .int .i64 1, .int .i64 0, .int .i64 1, .int .i64 1, .int .i64 0, .int .i64 0, .int .i64 0]
  else #[]
theorem marks0 : marks 0 = #[.int .i64 0, .int .i64 0, .int .i64 0, .int .i64 0, .int .i64 0, .int .i64 0, .int .i64 0, .int .i64 0, .int .i64 0, .int .i64 0, .int .i64 0, .int .i64 0, .int .i64 0, .int .i64 0, .int .i64 0, .int .i64 0] := by simp [marks]
theorem marks1 : marks 1 = #[.int .i64 0, .int .i64 0, .int .i64 0, .int .i64 0, .int .i64 0, .int .i64 0, .int .i64 0, .int .i64 0, .int .i64 0, .int .i64 0, .int .i64 0, .int .i64 0, .int .i64 1, .int .i64 0, .int .i64 0, .int .i64 0] := by simp [marks]
theorem marks2 : marks 2 = #[.int .i64 0, .int .i64 0, .int .i64 0, .int .i64 0, .int .i64 1, .int .i64 0, .int .i64 0, .int .i64 0, .int .i64 0, .int .i64 0, .int .i64 0, .int .i64 0, .int .i64 1, .int .i64 0, .int .i64 0, .int .i64 0] := by simp [marks]
theorem marks3 : marks 3 = #[.int .i64 0, .int .i64 1, .int .i64 0, .int .i64 0, .int .i64 1, .int .i64 0, .int .i64 0, .int .i64 0, .int .i64 0, .int .i64 0, .int .i64 0, .int .i64 0, .int .i64 1, .int .i64 0, .int .i64 0, .int .i64 0] := by simp [marks]
theorem marks4 : marks 4 = #[.int .i64 0, .int .i64 1, .int .i64 0, .int .i64 0, .int .i64 1, .int .i64 0, .int .i64 0, .int .i64 0, .int .i64 0, .int .i64 1, .int .i64 0, .int .i64 0, .int .i64 1, .int .i64 0, .int .i64 0, .int .i64 0] := by simp [marks]
theorem marks5 : marks 5 = #[.int .i64 0, .int .i64 1, .int .i64 0, .int .i64 1, .int .i64 1, .int .i64 0, .int .i64 0, .int .i64 0, .int .i64 0, .int .i64 1, .int .i64 0, .int .i64 0, .int .i64 1, .int .i64 0, .int .i64 0, .int .i64 0] := by simp [marks]
theorem marks6 : marks 6 = #[.int .i64 0, .int .i64 1, .int .i64 0, .int .i64 1, .int .i64 1, .int .i64 0, .int .i64 0, .int .i64 0, .int .i64 0, .int .i64 1, .int .i64 0, .int .i64 1, .int .i64 1, .int .i64 0, .int .i64 0, .int .i64 0] := by simp [marks]
set_option maxHeartbeats 4000000 in
theorem modeApart_walk (w : World) (ht : Tab w) :
    Calls Tryd.prog 7 #[] w fun e w' => e = .returned (.bool true) ∧ Kept w w' := by
  have hk : Kept w w := Kept.refl w
  go_enter Tryd.func7, Tryd.ntmps7
  go_wp2_with (first
    | (go_at_call 22; refine (awake2_any _ (ht.kept (by first | exact hk | exact (hk.alloc _) | exact ((hk.alloc _).alloc _) | exact (((hk.alloc _).alloc _).alloc _) | exact ((((hk.alloc _).alloc _).alloc _).alloc _) | exact (((((hk.alloc _).alloc _).alloc _).alloc _).alloc _) | exact ((((((hk.alloc _).alloc _).alloc _).alloc _).alloc _).alloc _)))).mono ?_; rintro e w1 ⟨rfl, hn⟩; replace hk := Kept.trans (by first | exact hk | exact (hk.alloc _) | exact ((hk.alloc _).alloc _) | exact (((hk.alloc _).alloc _).alloc _) | exact ((((hk.alloc _).alloc _).alloc _).alloc _) | exact (((((hk.alloc _).alloc _).alloc _).alloc _).alloc _) | exact ((((((hk.alloc _).alloc _).alloc _).alloc _).alloc _).alloc _)) hn)
    | (go_at_call 13; refine (modeAll_lies _).mono ?_; rintro e w1 ⟨g, cap, rfl, hl, hn⟩; replace hk := Kept.trans (by first | exact hk | exact (hk.alloc _) | exact ((hk.alloc _).alloc _) | exact (((hk.alloc _).alloc _).alloc _) | exact ((((hk.alloc _).alloc _).alloc _).alloc _) | exact (((((hk.alloc _).alloc _).alloc _).alloc _).alloc _) | exact ((((((hk.alloc _).alloc _).alloc _).alloc _).alloc _).alloc _)) hn)
    | fail)
  have hm := modes6_of hl
  clear hl
  go_loopw [3] (fun n wx => ∃ k : Nat, k ≤ 6 ∧ n = .int .i64 k ∧ Kept w1 wx ∧ Own wx w1.heap.size 42 (marks k)) (fun n _ => 6 - (intOf n).toNat)
  case atStart => exact ⟨0, Nat.zero_le _, rfl, (Kept.refl _).alloc _, (Own.new _ _ _).is marks0.symm⟩
  case round =>
    obtain ⟨k, hk4, rfl, hx, ho⟩ := hrel
    replace hk := hk.trans hx
    have hgs : g < w1.heap.size := hm.lt
    have hgne : g ≠ w1.heap.size := by omega
    have ho_l := ho.lt
    replace hm := hm.kept hx
    rcases (by omega : k = 0 ∨ k = 1 ∨ k = 2 ∨ k = 3 ∨ k = 4 ∨ k = 5 ∨ k = 6) with rfl | rfl | rfl | rfl | rfl | rfl | rfl
    case inr.inr.inr.inr.inr.inr =>
      go_wp2
      go_ret
      exact ⟨rfl, hk⟩
    case inl =>
      have e0 : edgeS 0 0 0 = (3, 0) := by decide
      have e2 : edgeS 0 0 2 = (0, 0) := by decide
      replace ho := ho.is marks0
      have hm_l := hm.lt
      have hm_0 := hm.c0
      have hm_1 := hm.c1
      go_wp2_with (first
        | (go_at_call 9; refine (modeEdge_any _ _ _ _ (ht.kept (by first | exact hk | exact (hk.alloc _) | exact ((hk.alloc _).alloc _) | exact (((hk.alloc _).alloc _).alloc _) | exact ((((hk.alloc _).alloc _).alloc _).alloc _) | exact (((((hk.alloc _).alloc _).alloc _).alloc _).alloc _) | exact ((((((hk.alloc _).alloc _).alloc _).alloc _).alloc _).alloc _)))).mono ?_; rintro e w2 ⟨rfl, hn⟩; replace hk := Kept.trans (by first | exact hk | exact (hk.alloc _) | exact ((hk.alloc _).alloc _) | exact (((hk.alloc _).alloc _).alloc _) | exact ((((hk.alloc _).alloc _).alloc _).alloc _) | exact (((((hk.alloc _).alloc _).alloc _).alloc _).alloc _) | exact ((((((hk.alloc _).alloc _).alloc _).alloc _).alloc _).alloc _)) hn; replace hx := hx.trans hn; replace hm := hm.kept hn; replace ho := ho.kept hn; have hm_l := hm.lt; have hm_0 := hm.c0; have hm_1 := hm.c1; have ho_l := ho.lt; have ho_0 : World.cell? _ _ = some (.int .i64 0) := (ho.cell 12).trans rfl; have ho_f := ho.free 12)
        | (go_at_call 14; refine (num_any _ _).mono ?_; rintro e w1 ⟨rfl, rfl⟩)
        | fail)
      go_roundw
      case rel => exact ⟨1, by omega, rfl, hx.set (by simp) _, (ho.set 12 _).is (by rw [marks1]; rfl)⟩
      case measure => simp [intOf]
    case inr.inl =>
      have e0 : edgeS 0 1 0 = (1, 0) := by decide
      have e2 : edgeS 0 1 2 = (0, 0) := by decide
      replace ho := ho.is marks1
      have hm_l := hm.lt
      have hm_0 := hm.c2
      have hm_1 := hm.c3
      go_wp2_with (first
        | (go_at_call 9; refine (modeEdge_any _ _ _ _ (ht.kept (by first | exact hk | exact (hk.alloc _) | exact ((hk.alloc _).alloc _) | exact (((hk.alloc _).alloc _).alloc _) | exact ((((hk.alloc _).alloc _).alloc _).alloc _) | exact (((((hk.alloc _).alloc _).alloc _).alloc _).alloc _) | exact ((((((hk.alloc _).alloc _).alloc _).alloc _).alloc _).alloc _)))).mono ?_; rintro e w2 ⟨rfl, hn⟩; replace hk := Kept.trans (by first | exact hk | exact (hk.alloc _) | exact ((hk.alloc _).alloc _) | exact (((hk.alloc _).alloc _).alloc _) | exact ((((hk.alloc _).alloc _).alloc _).alloc _) | exact (((((hk.alloc _).alloc _).alloc _).alloc _).alloc _) | exact ((((((hk.alloc _).alloc _).alloc _).alloc _).alloc _).alloc _)) hn; replace hx := hx.trans hn; replace hm := hm.kept hn; replace ho := ho.kept hn; have hm_l := hm.lt; have hm_0 := hm.c2; have hm_1 := hm.c3; have ho_l := ho.lt; have ho_0 : World.cell? _ _ = some (.int .i64 0) := (ho.cell 4).trans rfl; have ho_f := ho.free 4)
        | (go_at_call 14; refine (num_any _ _).mono ?_; rintro e w1 ⟨rfl, rfl⟩)
        | fail)
      go_roundw
      case rel => exact ⟨2, by omega, rfl, hx.set (by simp) _, (ho.set 4 _).is (by rw [marks2]; rfl)⟩
      case measure => simp [intOf]
    case inr.inr.inl =>
      have e0 : edgeS 1 0 0 = (0, 0) := by decide
      have e2 : edgeS 1 0 2 = (1, 0) := by decide
      replace ho := ho.is marks2
      have hm_l := hm.lt
      have hm_0 := hm.c4
      have hm_1 := hm.c5
      go_wp2_with (first
        | (go_at_call 9; refine (modeEdge_any _ _ _ _ (ht.kept (by first | exact hk | exact (hk.alloc _) | exact ((hk.alloc _).alloc _) | exact (((hk.alloc _).alloc _).alloc _) | exact ((((hk.alloc _).alloc _).alloc _).alloc _) | exact (((((hk.alloc _).alloc _).alloc _).alloc _).alloc _) | exact ((((((hk.alloc _).alloc _).alloc _).alloc _).alloc _).alloc _)))).mono ?_; rintro e w2 ⟨rfl, hn⟩; replace hk := Kept.trans (by first | exact hk | exact (hk.alloc _) | exact ((hk.alloc _).alloc _) | exact (((hk.alloc _).alloc _).alloc _) | exact ((((hk.alloc _).alloc _).alloc _).alloc _) | exact (((((hk.alloc _).alloc _).alloc _).alloc _).alloc _) | exact ((((((hk.alloc _).alloc _).alloc _).alloc _).alloc _).alloc _)) hn; replace hx := hx.trans hn; replace hm := hm.kept hn; replace ho := ho.kept hn; have hm_l := hm.lt; have hm_0 := hm.c4; have hm_1 := hm.c5; have ho_l := ho.lt; have ho_0 : World.cell? _ _ = some (.int .i64 0) := (ho.cell 1).trans rfl; have ho_f := ho.free 1)
        | (go_at_call 14; refine (num_any _ _).mono ?_; rintro e w1 ⟨rfl, rfl⟩)
        | fail)
      go_roundw
      case rel => exact ⟨3, by omega, rfl, hx.set (by simp) _, (ho.set 1 _).is (by rw [marks3]; rfl)⟩
      case measure => simp [intOf]
    case inr.inr.inr.inl =>
      have e0 : edgeS 1 1 0 = (2, 0) := by decide
      have e2 : edgeS 1 1 2 = (1, 0) := by decide
      replace ho := ho.is marks3
      have hm_l := hm.lt
      have hm_0 := hm.c6
      have hm_1 := hm.c7
      go_wp2_with (first
        | (go_at_call 9; refine (modeEdge_any _ _ _ _ (ht.kept (by first | exact hk | exact (hk.alloc _) | exact ((hk.alloc _).alloc _) | exact (((hk.alloc _).alloc _).alloc _) | exact ((((hk.alloc _).alloc _).alloc _).alloc _) | exact (((((hk.alloc _).alloc _).alloc _).alloc _).alloc _) | exact ((((((hk.alloc _).alloc _).alloc _).alloc _).alloc _).alloc _)))).mono ?_; rintro e w2 ⟨rfl, hn⟩; replace hk := Kept.trans (by first | exact hk | exact (hk.alloc _) | exact ((hk.alloc _).alloc _) | exact (((hk.alloc _).alloc _).alloc _) | exact ((((hk.alloc _).alloc _).alloc _).alloc _) | exact (((((hk.alloc _).alloc _).alloc _).alloc _).alloc _) | exact ((((((hk.alloc _).alloc _).alloc _).alloc _).alloc _).alloc _)) hn; replace hx := hx.trans hn; replace hm := hm.kept hn; replace ho := ho.kept hn; have hm_l := hm.lt; have hm_0 := hm.c6; have hm_1 := hm.c7; have ho_l := ho.lt; have ho_0 : World.cell? _ _ = some (.int .i64 0) := (ho.cell 9).trans rfl; have ho_f := ho.free 9)
        | (go_at_call 14; refine (num_any _ _).mono ?_; rintro e w1 ⟨rfl, rfl⟩)
        | fail)
      go_roundw
      case rel => exact ⟨4, by omega, rfl, hx.set (by simp) _, (ho.set 9 _).is (by rw [marks4]; rfl)⟩
      case measure => simp [intOf]
    case inr.inr.inr.inr.inl =>
      have e0 : edgeS 2 0 0 = (0, 0) := by decide
      have e2 : edgeS 2 0 2 = (3, 0) := by decide
      replace ho := ho.is marks4
      have hm_l := hm.lt
      have hm_0 := hm.c8
      have hm_1 := hm.c9
      go_wp2_with (first
        | (go_at_call 9; refine (modeEdge_any _ _ _ _ (ht.kept (by first | exact hk | exact (hk.alloc _) | exact ((hk.alloc _).alloc _) | exact (((hk.alloc _).alloc _).alloc _) | exact ((((hk.alloc _).alloc _).alloc _).alloc _) | exact (((((hk.alloc _).alloc _).alloc _).alloc _).alloc _) | exact ((((((hk.alloc _).alloc _).alloc _).alloc _).alloc _).alloc _)))).mono ?_; rintro e w2 ⟨rfl, hn⟩; replace hk := Kept.trans (by first | exact hk | exact (hk.alloc _) | exact ((hk.alloc _).alloc _) | exact (((hk.alloc _).alloc _).alloc _) | exact ((((hk.alloc _).alloc _).alloc _).alloc _) | exact (((((hk.alloc _).alloc _).alloc _).alloc _).alloc _) | exact ((((((hk.alloc _).alloc _).alloc _).alloc _).alloc _).alloc _)) hn; replace hx := hx.trans hn; replace hm := hm.kept hn; replace ho := ho.kept hn; have hm_l := hm.lt; have hm_0 := hm.c8; have hm_1 := hm.c9; have ho_l := ho.lt; have ho_0 : World.cell? _ _ = some (.int .i64 0) := (ho.cell 3).trans rfl; have ho_f := ho.free 3)
        | (go_at_call 14; refine (num_any _ _).mono ?_; rintro e w1 ⟨rfl, rfl⟩)
        | fail)
      go_roundw
      case rel => exact ⟨5, by omega, rfl, hx.set (by simp) _, (ho.set 3 _).is (by rw [marks5]; rfl)⟩
      case measure => simp [intOf]
    case inr.inr.inr.inr.inr.inl =>
      have e0 : edgeS 2 1 0 = (2, 0) := by decide
      have e2 : edgeS 2 1 2 = (3, 0) := by decide
      replace ho := ho.is marks5
      have hm_l := hm.lt
      have hm_0 := hm.c10
      have hm_1 := hm.c11
      go_wp2_with (first
        | (go_at_call 9; refine (modeEdge_any _ _ _ _ (ht.kept (by first | exact hk | exact (hk.alloc _) | exact ((hk.alloc _).alloc _) | exact (((hk.alloc _).alloc _).alloc _) | exact ((((hk.alloc _).alloc _).alloc _).alloc _) | exact (((((hk.alloc _).alloc _).alloc _).alloc _).alloc _) | exact ((((((hk.alloc _).alloc _).alloc _).alloc _).alloc _).alloc _)))).mono ?_; rintro e w2 ⟨rfl, hn⟩; replace hk := Kept.trans (by first | exact hk | exact (hk.alloc _) | exact ((hk.alloc _).alloc _) | exact (((hk.alloc _).alloc _).alloc _) | exact ((((hk.alloc _).alloc _).alloc _).alloc _) | exact (((((hk.alloc _).alloc _).alloc _).alloc _).alloc _) | exact ((((((hk.alloc _).alloc _).alloc _).alloc _).alloc _).alloc _)) hn; replace hx := hx.trans hn; replace hm := hm.kept hn; replace ho := ho.kept hn; have hm_l := hm.lt; have hm_0 := hm.c10; have hm_1 := hm.c11; have ho_l := ho.lt; have ho_0 : World.cell? _ _ = some (.int .i64 0) := (ho.cell 11).trans rfl; have ho_f := ho.free 11)
        | (go_at_call 14; refine (num_any _ _).mono ?_; rintro e w1 ⟨rfl, rfl⟩)
        | fail)
      go_roundw
      case rel => exact ⟨6, by omega, rfl, hx.set (by simp) _, (ho.set 11 _).is (by rw [marks6]; rfl)⟩
      case measure => simp [intOf]
end Go.Proofs.YtkapmnbkmljpkaaDoor
