/- Layer 2: the side at an edge. -/
import Derived.Test.YtpblajjfgnhkdaaDoorMode
namespace Go.Proofs.YtpblajjfgnhkdaaDoor
open Go.RowKit
def sideF (wr di edge : Int) : Nat → Nat → Int × Int
  | 0, _ => (0, 200)
  | n + 1, k => if (edgeS wr di k).2 = 0 ∧ (edgeS wr di k).1 = edge then ((k : Int), 0) else sideF wr di edge n (k + 1)
def sideS (wr di edge : Int) : Int × Int := sideF wr di edge 4 0
theorem sideF_step {wr di edge : Int} {k : Nat} (h : k < 4) : sideF wr di edge (4 - k) k = if (edgeS wr di k).2 = 0 ∧ (edgeS wr di k).1 = edge then ((k : Int), 0) else sideF wr di edge (4 - (k + 1)) (k + 1) := by
  obtain ⟨n, hn⟩ : ∃ n, 4 - k = n + 1 := ⟨3 - k, by omega⟩
  rw [hn, show 4 - (k + 1) = n from by omega]; rfl
set_option maxHeartbeats 1000000 in
theorem modeSide_any (wm di edge : Int) (w : World) (ht : Tab w) :
    Calls Tryd.prog 94 #[modeV wm di, .int .i64 edge] w fun e w' => e = .returned (.tuple #[.int .i64 (sideS wm di edge).1, .int .i64 (sideS wm di edge).2]) ∧ Kept w w' := by
  go_enter Tryd.func94, Tryd.ntmps94
  go_wp2
  go_loopw [6] (fun i wx => ∃ k : Nat, k ≤ 4 ∧ i = .int .i64 k ∧ Kept (w.alloc (.cells #[.int .i64 wm, .int .i64 di] 52)) wx ∧ sideS wm di edge = sideF wm di edge (4 - k) k) (fun i _ => 4 - (intOf i).toNat)
  case atStart => exact ⟨0, Nat.zero_le _, rfl, Kept.refl _, rfl⟩
  case round =>
    obtain ⟨k, hk4, rfl, hkb, he⟩ := hrel
    have He := Lib.hid he
    clear he
    have hk : Kept w _ := ((Kept.refl w).alloc _).trans hkb
    have c0 := hkb.cell (p := ⟨w.heap.size, 0, none⟩) (by simp)
    have c1 := hkb.cell (p := ⟨w.heap.size, 1, none⟩) (by simp)
    by_cases hlt : k < 4
    · have hd := sideF_step (wr := wm) (di := di) (edge := edge) hlt
      have Hd := Lib.hid hd
      clear hd
      by_cases hE : (edgeS wm di k).2 = 0 ∧ (edgeS wm di k).1 = edge
      · obtain ⟨h1, h2⟩ := hE
        have b1 : ((edgeS wm di k).2 == 0) = true := by simp [h1]
        have b2 : ((edgeS wm di k).1 == edge) = true := by simp [h2]
        have H1 := Lib.hid h1
        have H2 := Lib.hid h2
        clear h1 h2
        go_wp2_with fail
        refine (modeEdge_any _ _ _ _ (ht.kept hk)).mono ?_
        rintro e w1 ⟨rfl, hn⟩
        replace hkb := hkb.trans hn
        replace hk := Kept.trans (by first | ((repeat (first | with_reducible exact hk | with_reducible refine Kept.alloc ?_ _ | with_reducible refine Kept.drew ?_ | with_reducible refine Kept.drewN ?_ _ | with_reducible refine Kept.set ?_ (by first | (simp; done) | (simp; omega) | omega) _)); done) | exact hk | exact (hk.alloc _) | exact ((hk.alloc _).alloc _) | exact (((hk.alloc _).alloc _).alloc _) | exact ((((hk.alloc _).alloc _).alloc _).alloc _) | exact (((((hk.alloc _).alloc _).alloc _).alloc _).alloc _) | exact ((((((hk.alloc _).alloc _).alloc _).alloc _).alloc _).alloc _)) hn
        go_wp2
        go_ret2
        exact ⟨by rw [He.out, Hd.out, if_pos ⟨H1.out, H2.out⟩]; rfl, hk⟩
      · have b : ((edgeS wm di k).2 == 0 && (edgeS wm di k).1 == edge) = false := by
          rw [Bool.eq_false_iff]; simpa using hE
        have HE := Lib.hid hE
        clear hE
        cases b1 : ((edgeS wm di k).2 == 0)
        · clear b
          go_wp2_with fail
          refine (modeEdge_any _ _ _ _ (ht.kept hk)).mono ?_
          rintro e w1 ⟨rfl, hn⟩
          replace hkb := hkb.trans hn
          replace hk := Kept.trans (by first | ((repeat (first | with_reducible exact hk | with_reducible refine Kept.alloc ?_ _ | with_reducible refine Kept.drew ?_ | with_reducible refine Kept.drewN ?_ _ | with_reducible refine Kept.set ?_ (by first | (simp; done) | (simp; omega) | omega) _)); done) | exact hk | exact (hk.alloc _) | exact ((hk.alloc _).alloc _) | exact (((hk.alloc _).alloc _).alloc _) | exact ((((hk.alloc _).alloc _).alloc _).alloc _) | exact (((((hk.alloc _).alloc _).alloc _).alloc _).alloc _) | exact ((((((hk.alloc _).alloc _).alloc _).alloc _).alloc _).alloc _)) hn
          go_wp2
          exact ⟨⟨k + 1, by omega, by go_num, hkb, by rw [He.out, Hd.out, if_neg HE.out]⟩, by simp [intOf]; omega⟩
        · have b2 : ((edgeS wm di k).1 == edge) = false := by simpa [b1] using b
          clear b
          go_wp2_with fail
          refine (modeEdge_any _ _ _ _ (ht.kept hk)).mono ?_
          rintro e w1 ⟨rfl, hn⟩
          replace hkb := hkb.trans hn
          replace hk := Kept.trans (by first | ((repeat (first | with_reducible exact hk | with_reducible refine Kept.alloc ?_ _ | with_reducible refine Kept.drew ?_ | with_reducible refine Kept.drewN ?_ _ | with_reducible refine Kept.set ?_ (by first | (simp; done) | (simp; omega) | omega) _)); done) | exact hk | exact (hk.alloc _) | exact ((hk.alloc _).alloc _) | exact (((hk.alloc _).alloc _).alloc _) | exact ((((hk.alloc _).alloc _).alloc _).alloc _) | exact (((((hk.alloc _).alloc _).alloc _).alloc _).alloc _) | exact ((((((hk.alloc _).alloc _).alloc _).alloc _).alloc _).alloc _)) hn
          go_wp2
          exact ⟨⟨k + 1, by omega, by go_num, hkb, by rw [He.out, Hd.out, if_neg HE.out]⟩, by simp [intOf]; omega⟩
    · obtain rfl : k = 4 := by omega
      go_wp2
      go_ret2
      exact ⟨by rw [He.out]; rfl, hk⟩
end Go.Proofs.YtpblajjfgnhkdaaDoor
