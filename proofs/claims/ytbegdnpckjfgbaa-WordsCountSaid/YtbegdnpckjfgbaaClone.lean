/- Layer 5: a text is copied. -/
import Derived.Test.YtbegdnpckjfgbaaBoxes
import Derived.Laws.MakeOwn
import Derived.Lib.BufferWrite
import Derived.Lib.UnsafeStr
namespace Go.Proofs.Ytbegdnpckjfgbaa
open Go.RowKit Go.Lib
set_option linter.unusedSimpArgs false
set_option linter.unusedVariables false
theorem u8Info : (Try.prog.info? 5).map (fun i => (i.zero, i.size, i.bytes)) = some (some (.int .u8 0), 1, 1) := by kernel_rfl
theorem text_none {s : ByteArray} (h : s.size = 0) : s = ⟨#[]⟩ := by
  apply ByteArray.ext
  exact Array.eq_empty_of_size_eq_zero h
theorem Kept.freeze {a w : World} (h : Kept a w) {p : Addr} (hp : a.heap.size ≤ p.block) (n : Nat) : Kept a (w.freeze p n) := ⟨below_freeze h.below hp n⟩
set_option maxHeartbeats 1000000 in
theorem liteClone_any (s : ByteArray) (w : World) (hm : s.size ≤ 140737488351232) :
    Calls Try.prog 59 #[.string s] w fun e w' => e = .returned (.string s) ∧ Kept w w' := by
  obtain ⟨i0, hi, hz0, hz1, hz2⟩ := info_parts u8Info
  rcases Nat.eq_zero_or_pos s.size with h0 | h0
  · obtain rfl := text_none h0
    go_enter Try.func59, Try.ntmps59
    go_wp2
    go_ret
    exact ⟨rfl, Kept.refl w⟩
  · obtain ⟨m, hm0⟩ : ∃ m, s.size = m := ⟨_, rfl⟩
    rw [hm0] at hm h0
    have hmk := run_make (P := Try.prog) w 38 5 i0 _ Try.underlying38 hi hz0 .i64 .i64 (m : Int) (m : Int) (by omega) (Int.le_refl _) (by rw [hz2]; omega) (by omega)
    rw [hz1, Int.toNat_natCast] at hmk
    obtain ⟨W, hW⟩ : ∃ W, W = w.alloc (.cells (madeCells (Value.cells (.int .u8 0)) (m * 1)) 5) := ⟨_, rfl⟩
    rw [← hW] at hmk
    have oW : Own W w.heap.size 5 (madeCells (Value.cells (.int .u8 0)) (m * 1)) := hW ▸ Own.new w _ _
    have kW : Kept w W := hW ▸ (Kept.refl w).alloc _
    clear hW
    have hsz : (madeCells (Value.cells (.int .u8 0)) (m * 1)).size = m := by rw [size_madeCells, Nat.mul_one]
    have hcp := fun ty => run_copy_row_string (P := Try.prog) W 38 9 ty 5 w.heap.size 0 m m s _ _ Try.underlying38 (by rw [hi]; simp [hz1]) oW.whole (by omega) (by rw [hsz]; omega)
    rw [hm0] at hcp
    obtain ⟨X, hX⟩ : ∃ X, X = W.setRow w.heap.size (List.take 0 (madeCells (Value.cells (.int .u8 0)) (m * 1)).toList ++ byteCells s.data.toList ++ List.drop (0 + m) (madeCells (Value.cells (.int .u8 0)) (m * 1)).toList).toArray := ⟨_, rfl⟩
    rw [← hX] at hcp
    have oX : Own X w.heap.size 5 (byteCells s.data.toList).toArray := by
      refine ⟨?_⟩
      rw [hX, setRow_heap W w.heap.size _ _ _ _ oW.whole]
      rw [List.take_zero, List.nil_append, List.drop_of_length_le (by rw [Array.length_toList, hsz]; omega), List.append_nil]
    have kX : Kept w X := ⟨kW.below.trans ⟨by rw [hX]; rfl, by rw [hX]; rfl, by rw [hX]; rfl, by rw [hX]; unfold World.setRow; simp, fun i hi => by rw [hX]; exact setRow_other W _ i _ (by omega)⟩⟩
    clear hX
    have hlen : s.data.toList.length = m := by rw [← hm0]; rfl
    have hus := fun pt it ty (hp : Try.prog.underlying pt = some (.pointer 5)) => run_unsafeString_row (P := Try.prog) X pt it ty 5 hp (by kernel_rfl) w.heap.size m (by unfold World.shape?; rw [oX.whole]; simp [byteCells, hm0]) s.data.toList (by intro h; rw [h] at hlen; simp at hlen; omega) (by omega) (by omega) (fun j x hx => by
      rw [show ((⟨w.heap.size, 0, none⟩ : Addr).add j) = ⟨w.heap.size, j, none⟩ by unfold Addr.add; by_cases hj : j = 0; (subst hj; rfl); (rw [if_neg hj]; simp)]
      rw [oX.cell]
      simp [byteCells, hx])
    rw [hlen] at hus
    have hss : (⟨s.data.toList.toArray⟩ : ByteArray) = s := by apply ByteArray.ext; simp
    rw [hss] at hus
    have kF := kX.freeze (p := ⟨w.heap.size, 0, none⟩) (Nat.le_refl _) m
    obtain ⟨Y, hY⟩ : ∃ Y, Y = X.freeze ⟨w.heap.size, 0, none⟩ m := ⟨_, rfl⟩
    rw [← hY] at kF hus
    clear hY oX oW kX kW hsz hss hlen
    go_enter Try.func59, Try.ntmps59
    go_wp2
    go_ret
    exact ⟨rfl, kF⟩
theorem clone_any (s : ByteArray) (w : World) (hm : s.size ≤ 140737488351232) :
    Calls Try.prog 49 #[.string s] w fun e w' => e = .returned (.string s) ∧ Kept w w' := by
  have hk : Kept w w := Kept.refl w
  go_enter Try.func49, Try.ntmps49
  go_wp2_with fail
  refine (liteClone_any _ _ hm).mono ?_
  rintro e w1 ⟨rfl, hn⟩
  replace hk := hk.trans hn
  clear hn
  go_wp2
  go_ret
  exact ⟨rfl, hk⟩
end Go.Proofs.Ytbegdnpckjfgbaa
