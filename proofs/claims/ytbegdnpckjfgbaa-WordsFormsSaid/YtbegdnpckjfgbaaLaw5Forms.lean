/- Layer 5: texts that are too long by one byte, and not. -/
import Derived.Test.YtbegdnpckjfgbaaWordsB
import Derived.Test.YtbegdnpckjfgbaaMask
namespace Go.Proofs.Ytbegdnpckjfgbaa
open Go.RowKit Go.Lib
set_option linter.unusedSimpArgs false
set_option linter.unusedVariables false
/-- bytes, the first k of which are written -/
def fC (n k : Nat) : Array Value := (List.replicate k (Value.int .u8 97) ++ List.replicate (n - k) (Value.int .u8 0)).toArray
theorem fC_set {n k : Nat} (h : k < n) : (fC n k).setIfInBounds k (.int .u8 97) = fC n (k + 1) := by
  unfold fC
  rw [List.setIfInBounds_toArray]
  congr 1
  obtain ⟨d, hd⟩ : ∃ d, n - k = d + 1 := ⟨n - k - 1, by omega⟩
  rw [hd, show n - (k + 1) = d by omega, List.set_append_right _ _ (by simp), List.length_replicate, Nat.sub_self, List.replicate_succ, List.set_cons_zero, List.replicate_succ']
  simp
theorem fC_at {n k : Nat} (h : k < n) : (fC n k)[k]? = some (.int .u8 0) := by
  unfold fC
  obtain ⟨d, hd⟩ : ∃ d, n - k = d + 1 := ⟨n - k - 1, by omega⟩
  rw [hd, List.getElem?_toArray, List.getElem?_append_right (by simp), List.length_replicate, Nat.sub_self]
  rfl
theorem fC_new (n : Nat) : madeCells #[.int .u8 0] n = fC n 0 := by
  apply Array.toList_inj.1
  rw [toList_madeCells_one]
  simp [fC]
theorem fC_cells {w : World} {b n : Nat} {t : TypeId} (h : Own w b t (fC n n)) : ∀ i, i < n → w.cell? ⟨b, 0 + i, none⟩ = some (.int .u8 ((List.replicate n (97 : Int)).getD i 0)) := by
  intro i hi
  rw [Nat.zero_add, h.cell]
  unfold fC
  simp [hi]
theorem fC_size (n k : Nat) (h : k ≤ n) : (fC n k).size = n := by unfold fC; simp; omega
set_option maxHeartbeats 2000000 in
theorem wordsForms_main (x : Int) (n : Nat) (hn : n ≤ 127) (hx : bits .and .i64 x 127 = (n : Int)) (w : World) :
    Calls Try.prog 5 #[.int .i64 x] w fun e w' => e = .returned (.bool true) ∧ Kept w w' := by
  obtain ⟨i0, hi, hz0, hz1, hz2⟩ := info_parts u8Info
  have hk : Kept w w := Kept.refl w
  go_enter Try.func5, Try.ntmps5
  go_wp2_with fail
  refine (awake5_any _).mono ?_
  rintro e w1 ⟨rfl, hn⟩
  replace hk := hk.trans hn
  clear hn
  have hmk := run_make (P := Try.prog) w1 38 5 i0 _ Try.underlying38 hi hz0 .i64 .i64 (n : Int) (n : Int) (by omega) (Int.le_refl _) (by rw [hz2]; omega) (by omega)
  rw [hz1, Int.toNat_natCast, Nat.mul_one] at hmk
  obtain ⟨W, hW⟩ : ∃ W, W = w1.alloc (.cells (madeCells (Value.cells (.int .u8 0)) n) 5) := ⟨_, rfl⟩
  rw [← hW] at hmk
  have oW : Own W w1.heap.size 5 (fC n 0) := by rw [← fC_new]; exact hW ▸ Own.new w1 _ _
  have kW : Kept w1 W := hW ▸ (Kept.refl w1).alloc _
  obtain ⟨g, hg⟩ : ∃ g, w1.heap.size = g := ⟨_, rfl⟩
  rw [hg] at hmk oW
  have hkg : w.heap.size ≤ g := by have := hk.size; omega
  replace hk := hk.trans kW
  clear hW kW hg hi hz0 hz1 hz2
  go_wp2
  clear hmk
  go_loopw [4] (fun i wx => ∃ k : Nat, k ≤ n ∧ i = .int .i64 k ∧ Kept w wx ∧ Own wx g 5 (fC n k)) (fun i _ => n - (intOf i).toNat)
  case atStart => exact ⟨0, Nat.zero_le _, rfl, hk, oW⟩
  case round =>
    clear hk oW
    obtain ⟨k, hkn, rfl, hk, ho⟩ := hrel
    by_cases hlt : k < n
    · have hi0 : (0 : Int) ≤ (k : Int) := Int.natCast_nonneg _
      have hi1 : (k : Int) < (n : Int) := by omega
      have c0 : wr.cell? ⟨g, k, none⟩ = some (.int .u8 0) := (ho.cell k).trans (fC_at hlt)
      have f0 := ho.free k
      have hl := ho.lt
      have ho2 := ho.set k (.int .u8 97)
      rw [fC_set hlt] at ho2
      replace ho2 := Lib.hid ho2
      replace ho := Lib.hid ho
      go_wp2
      exact ⟨⟨k + 1, by omega, by first | rfl | go_num, hk.set hkg _, ho2.out⟩, by first | (simp [intOf]; done) | (simp [intOf]; omega)⟩
    · obtain rfl : k = n := by omega
      have hcv : Sem.run Try.prog (convert 38 9 (.slice (some ⟨g, 0, none⟩) k k)) wr = .ok (.string (fS k)) wr := run_convert_bytes_arg (P := Try.prog) wr 38 5 Try.underlying38 Try.underlying5 g 0 k k (List.replicate k 97) (by simp) (fC_cells ho) 9 Try.underlying9
      clear ho
      have hsz := fS_size k
      by_cases h8 : 80 < k
      · have HS := Lib.hid (fun wx => wordsSplit_long (fS k) wx (by omega) (by omega))
        have h8i : (80 : Int) < (k : Int) := by omega
        clear hsz
        go_wp2_with fail
        refine (HS.out _).mono ?_
        rintro e w1 ⟨rfl, hn⟩
        replace hk := hk.trans hn
        clear hn
        go_wp2_with fail
        refine (num_any _ _).mono ?_
        rintro e w1 ⟨rfl, rfl⟩
        go_wp2
        go_ret
        exact ⟨rfl, hk⟩
      · obtain ⟨h1, h2⟩ := fS_words k (by omega)
        have HS := Lib.hid (fun wx => (show Calls Try.prog 16 #[.string (fS k)] wx (fun e w' => ∃ u, e = .returned (.tuple #[u, .int .i64 0]) ∧ WV w' u (min 1 k) (wT (fS k)) (fun _ => 512 * (k : Int)) (wG (fS k)) ∧ Kept wx w') from by
          refine (wordsSplit_any (fS k) wx (by omega)).mono fun e w' ⟨u, he, ho, hkk⟩ => ⟨u, ?_, ?_, hkk⟩
          · rw [he]; unfold splE; rw [if_pos (by omega)]
          · rw [show splN (fS k) = min 1 k by unfold splN; rw [if_pos (by omega), h1]] at ho
            refine wv_same ho.wv fun i hi => ⟨rfl, ?_, rfl⟩
            obtain rfl : i = 0 := by omega
            exact h2 (by omega)))
        clear h1 h2 hsz
        rcases Nat.eq_zero_or_pos k with rfl | h0
        · skip
          go_wp2_with fail
          refine (HS.out _).mono ?_
          rintro e w1 ⟨u, rfl, hu, hn⟩
          replace hk := hk.trans hn
          clear hn
          obtain ⟨o, cap, rfl⟩ := hu.shape
          rw [show min 1 0 = 0 from rfl] at hu ⊢
          go_wp2_with fail
          refine (num_any _ _).mono ?_
          rintro e w1 ⟨rfl, rfl⟩
          go_wp2_with fail
          refine ((show Calls Try.prog 22 #[.slice o 0 cap] w1 (fun e w' => e = .returned (.int .i64 0) ∧ Kept w1 w') from wordsTotal_any _ 0 _ _ _ w1 hu (by decide))).mono ?_
          rintro e w1 ⟨rfl, hn⟩
          replace hk := hk.trans hn
          replace hu := hu.kept hn
          clear hn
          go_wp2_with fail
          refine ((show Calls Try.prog 20 #[.slice o 0 cap] w1 (fun e w' => e = .returned (.int .i64 0) ∧ Kept w1 w') from wordsLongest_any _ 0 _ _ _ w1 hu (by decide))).mono ?_
          rintro e w1 ⟨rfl, hn⟩
          replace hk := hk.trans hn
          replace hu := hu.kept hn
          clear hn
          go_wp2
          go_ret
          exact ⟨rfl, hk⟩
        · have h0i : (1 : Int) < (k : Int) ∨ (k : Int) = 1 := by omega
          have ht : totS (fun _ => 512 * (k : Int)) 1 = 512 * (k : Int) := by show wrap64 (0 + 0 + 512 * (k : Int)) = _; unfold wrap64; omega
          have hl : longS (fun _ => 512 * (k : Int)) 1 = 512 * (k : Int) := by show max 0 (512 * (k : Int)) = _; omega
          replace ht := Lib.hid ht
          replace hl := Lib.hid hl
          go_wp2_with fail
          refine (HS.out _).mono ?_
          rintro e w1 ⟨u, rfl, hu, hn⟩
          replace hk := hk.trans hn
          clear hn
          rw [show min 1 k = 1 by omega] at hu
          obtain ⟨o, cap, rfl⟩ := hu.shape
          go_wp2_with fail
          refine (num_any _ _).mono ?_
          rintro e w1 ⟨rfl, rfl⟩
          rcases h0i with h0i | h0i
          · skip
            go_wp2_with fail
            refine ((show Calls Try.prog 22 #[.slice o 1 cap] w1 (fun e w' => e = .returned (.int .i64 (512 * (k : Int))) ∧ Kept w1 w') from by have := wordsTotal_any _ 1 _ _ _ w1 hu (by decide); rw [ht.out] at this; exact this)).mono ?_
            rintro e w1 ⟨rfl, hn⟩
            replace hk := hk.trans hn
            replace hu := hu.kept hn
            clear hn
            go_wp2_with fail
            refine ((show Calls Try.prog 20 #[.slice o 1 cap] w1 (fun e w' => e = .returned (.int .i64 (512 * (k : Int))) ∧ Kept w1 w') from by have := wordsLongest_any _ 1 _ _ _ w1 hu (by decide); rw [hl.out] at this; exact this)).mono ?_
            rintro e w1 ⟨rfl, hn⟩
            replace hk := hk.trans hn
            replace hu := hu.kept hn
            clear hn
            go_wp2
            go_ret
            exact ⟨rfl, hk⟩
          · obtain rfl : k = 1 := by omega
            go_wp2_with fail
            refine ((show Calls Try.prog 22 #[.slice o 1 cap] w1 (fun e w' => e = .returned (.int .i64 512) ∧ Kept w1 w') from by have := wordsTotal_any _ 1 _ _ _ w1 hu (by decide); rw [ht.out] at this; exact this)).mono ?_
            rintro e w1 ⟨rfl, hn⟩
            replace hk := hk.trans hn
            replace hu := hu.kept hn
            clear hn
            go_wp2_with fail
            refine ((show Calls Try.prog 20 #[.slice o 1 cap] w1 (fun e w' => e = .returned (.int .i64 512) ∧ Kept w1 w') from by have := wordsLongest_any _ 1 _ _ _ w1 hu (by decide); rw [hl.out] at this; exact this)).mono ?_
            rintro e w1 ⟨rfl, hn⟩
            replace hk := hk.trans hn
            replace hu := hu.kept hn
            clear hn
            go_wp2
            go_ret
            exact ⟨rfl, hk⟩
theorem wordsForms_walk (x : Int) (w : World) :
    Calls Try.prog 5 #[.int .i64 x] w fun e w' => e = .returned (.bool true) ∧ Kept w w' := by
  obtain ⟨a, ha, a0, a1⟩ := masked x 7 127 (by decide) (by decide)
  obtain ⟨a', rfl⟩ := Int.eq_ofNat_of_zero_le a0
  exact wordsForms_main x a' (by omega) ha w
end Go.Proofs.Ytbegdnpckjfgbaa
