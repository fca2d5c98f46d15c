/- Layer 5: words with their spaces are the text, but for the spaces ahead. -/
import Derived.Test.YtbegdnpckjfgbaaWordsB
namespace Go.Proofs.Ytbegdnpckjfgbaa
open Go.RowKit Go.Lib
set_option linter.unusedSimpArgs false
set_option linter.unusedVariables false
theorem run_all (p : Nat → Bool) (m : Nat) : ∀ d i, m - i ≤ d → ∀ k, i ≤ k → k < runS p m i → p k = true := by
  intro d
  induction d with
  | zero => intro i hi k h1 h2; rw [run_done (.inl (by omega))] at h2; omega
  | succ d ih =>
    intro i hi k h1 h2
    by_cases h : i < m
    · cases hp : p i with
      | true =>
        rw [run_step h hp] at h2
        rcases Nat.eq_or_lt_of_le h1 with rfl | h3
        · exact hp
        · exact ih (i + 1) (by omega) k (by omega) h2
      | false => rw [run_done (.inr hp)] at h2; omega
    · rw [run_done (.inl (by omega))] at h2; omega
theorem cat_extract (s : ByteArray) {a b c : Nat} (h1 : a ≤ b) (h2 : b ≤ c) : s.extract a b ++ s.extract b c = s.extract a c := by
  apply ByteArray.ext
  rw [ByteArray.data_append, ByteArray.data_extract, ByteArray.data_extract, ByteArray.data_extract, Array.extract_append_extract, Nat.min_eq_left h1, Nat.max_eq_right h2]
theorem byteAt_extract {s : ByteArray} {a b i : Nat} (hb : b ≤ s.size) (hi : a + i < b) : byteAt (s.extract a b) i = byteAt s (a + i) := by
  unfold byteAt
  have h1 : i < (s.extract a b).data.size := by rw [ByteArray.data_extract, Array.size_extract]; have : s.data.size = s.size := rfl; omega
  have h2 : a + i < s.data.size := by have : s.data.size = s.size := rfl; omega
  show ((s.extract a b).data[i]!).toNat = (s.data[a + i]!).toNat
  rw [getElem!_pos (s.extract a b).data i h1, getElem!_pos s.data (a + i) h2]
  simp [ByteArray.data_extract]
theorem one_extract {s : ByteArray} {i : Nat} (hi : i < s.size) (h : spA s i = true) : (⟨#[32]⟩ : ByteArray) = s.extract i (i + 1) := by
  have h32 : byteAt s i = 32 := by unfold spA at h; simpa using h
  have h2 : i < s.data.size := hi
  have h3 : s.data[i] = 32 := by
    unfold byteAt at h32
    have : (s.data[i]!).toNat = 32 := h32
    rw [getElem!_pos s.data i h2] at this
    exact UInt8.toNat_inj.1 this
  apply ByteArray.ext
  rw [ByteArray.data_extract]
  apply Array.ext
  · simp; omega
  · intro j hj1 hj2
    have : j = 0 := by simp at hj1; omega
    subst this
    simp [h3]
/-- what stands of the text in front of word i, and j spaces behind it -/
def tX (s : ByteArray) (i : Nat) : ByteArray := s.extract (bW (spA s) s.size 0) (bW (spA s) s.size i)
def tY (s : ByteArray) (i j : Nat) : ByteArray := s.extract (bW (spA s) s.size 0) (eW (spA s) s.size i + j)
theorem bW_mono0 (sp : Nat → Bool) (m i : Nat) : bW sp m 0 ≤ bW sp m i := by
  induction i with
  | zero => exact Nat.le_refl _
  | succ i ih =>
    have h1 := bW_ge sp m i
    have h2 : bW sp m i ≤ eW sp m i := run_ge _ _ _
    omega
theorem tX_word {s : ByteArray} {i : Nat} : tX s i ++ wT s i = tY s i 0 :=
  cat_extract s (bW_mono0 _ _ _) (run_ge _ _ _)
theorem tY_more {s : ByteArray} {i j : Nat} (h : eW (spA s) s.size i + j < bW (spA s) s.size (i + 1)) : tY s i j ++ ⟨#[32]⟩ = tY s i (j + 1) := by
  have hle := bW_le (spA s) s.size (i + 1)
  have hsp := run_all (spA s) s.size s.size (eW (spA s) s.size i) (by omega) (eW (spA s) s.size i + j) (by omega) h
  rw [one_extract (by omega) hsp]
  have h1 := bW_mono0 (spA s) s.size i
  have h2 : bW (spA s) s.size i ≤ eW (spA s) s.size i := run_ge _ _ _
  exact cat_extract s (by omega) (by omega)
theorem word_facts {s : ByteArray} (h80 : s.size ≤ 80) {i : Nat} (hi : i < wN s) : ∃ L Gn : Nat, (wT s i).size = L ∧ 1 ≤ L ∧ L ≤ 80 ∧ (∀ j, j < L → spA (wT s i) j = false) ∧ wG s i = (Gn : Int) ∧ Gn ≤ s.size ∧ (i + 1 < wN s → 1 ≤ Gn) ∧
    tX s i ++ wT s i = tY s i 0 ∧ (∀ j, j < Gn → tY s i j ++ ⟨#[32]⟩ = tY s i (j + 1)) ∧ tY s i Gn = tX s (i + 1) ∧ (tX s i).size ≤ 80 ∧ ∀ j, (tY s i j).size ≤ 80 := by
  have hb := nW_lt (spA s) s.size i hi
  have he := bW_word hb
  have hem := eW_le (spA s) s.size i
  have hg := bW_ge (spA s) s.size i
  have hle := bW_le (spA s) s.size (i + 1)
  have hsz : ∀ a b, (s.extract a b).size ≤ 80 := fun a b => by rw [ByteArray.size_extract]; omega
  refine ⟨eW (spA s) s.size i - bW (spA s) s.size i, bW (spA s) s.size (i + 1) - eW (spA s) s.size i, ?_, by omega, by omega, fun j hj => ?_, rfl, by omega, fun h1 => ?_, tX_word, fun j hj => tY_more (by omega), ?_, hsz _ _, fun j => hsz _ _⟩
  · unfold wT; rw [ByteArray.size_extract]; omega
  · have h2 := run_all (fun k => !spA s k) s.size s.size (bW (spA s) s.size i) (by omega) (bW (spA s) s.size i + j) (by omega) (by show _ < eW (spA s) s.size i; omega)
    have h3 : spA s (bW (spA s) s.size i + j) = false := by simpa using h2
    have e : byteAt (wT s i) j = byteAt s (bW (spA s) s.size i + j) := byteAt_extract (by omega) (by omega)
    show (byteAt (wT s i) j == 32) = false
    rw [e]
    exact h3
  · have hb2 := nW_lt (spA s) s.size (i + 1) h1
    have hlt : eW (spA s) s.size i < s.size := by omega
    have h3 := run_stop (fun k => !spA s k) s.size s.size (bW (spA s) s.size i) (by omega) hlt
    have h4 : spA s (eW (spA s) s.size i) = true := by simpa [eW] using h3
    have := run_more hlt h4
    rw [bW_next]
    omega
  · unfold tY tX; rw [show eW (spA s) s.size i + (bW (spA s) s.size (i + 1) - eW (spA s) s.size i) = bW (spA s) s.size (i + 1) by omega]
theorem text_idx {s : ByteArray} {i : Nat} (h : i < s.size) (w : World) : Sem.run Try.prog (Instr.index 9 (.string s) (.int .i64 (i : Int))) w = .ok (.int .u8 (byteAt s i : Nat)) w := text_at h w
set_option maxRecDepth 100000 in
set_option maxHeartbeats 8000000 in
theorem wordsJoin_main (s : ByteArray) (w : World) (hm : s.size ≤ 140737488351232) :
    Calls Try.prog 4 #[.string s] w fun e w' => e = .returned (.bool true) ∧ Kept w w' := by
  by_cases h80 : s.size ≤ 80
  · have HS := Lib.hid (fun wx => (show Calls Try.prog 16 #[.string s] wx (fun e w' => ∃ u, e = .returned (.tuple #[u, .int .i64 0]) ∧ WV w' u (wN s) (wT s) (wA s) (wG s) ∧ Kept wx w') from by
      refine (wordsSplit_any s wx hm).mono fun e w' ⟨u, he, ho, hkk⟩ => ⟨u, ?_, ?_, hkk⟩
      · rw [he]; unfold splE; rw [if_pos h80]
      · rw [show splN s = wN s from if_pos h80] at ho; exact ho.wv))
    have HF := Lib.hid (fun i (hi : i < wN s) => word_facts h80 hi)
    have hN80 : wN s ≤ 80 := by unfold wN; exact Nat.le_trans (nW_le _ _) h80
    have hB0 := Lib.hid (show runS (spA s) s.size 0 = bW (spA s) s.size 0 from rfl)
    have hX0 : tX s 0 = ⟨#[]⟩ := by unfold tX; apply text_none; rw [ByteArray.size_extract]; omega
    have hXN := Lib.hid (show tX s (wN s) = s.extract (bW (spA s) s.size 0) s.size by unfold tX; rw [show bW (spA s) s.size (wN s) = s.size from nW_at _ _])
    have hBm := bW_le (spA s) s.size 0
    have hstop := Lib.hid (fun h => run_stop (spA s) s.size s.size 0 (Nat.sub_le _ _) h)
    obtain ⟨m, hms⟩ : ∃ m, s.size = m := ⟨_, rfl⟩
    obtain ⟨B, hBe⟩ : ∃ B, bW (spA s) s.size 0 = B := ⟨_, rfl⟩
    rw [hBe] at hB0 hXN hBm
    have hst2 : B < m → spA s B = false := by have h7 := hstop.out; rw [hB0.out, hms] at h7; exact h7
    rw [hms] at hB0 hBm hXN h80 hm HF
    replace hst2 := Lib.hid hst2
    clear hstop hBe
    generalize wN s = N at *
    have hk : Kept w w := Kept.refl w
    go_enter Try.func4, Try.ntmps4
    go_wp2_with fail
    refine (awake5_any _).mono ?_
    rintro e w1 ⟨rfl, hn⟩
    replace hk := hk.trans hn
    clear hn
    go_wp2_with fail
    refine (HS.out _).mono ?_
    rintro e w1 ⟨u, rfl, hu, hn⟩
    replace hk := hk.trans hn
    clear hn
    obtain ⟨o, cap, rfl⟩ := hu.shape
    go_wp2_with fail
    refine (num_any _ _).mono ?_
    rintro e w1 ⟨rfl, rfl⟩
    clear HS
    go_wp2
    go_loopw [5] (fun k wx => ∃ n : Nat, k = .int .i64 (n : Nat) ∧ n ≤ B ∧ runS (spA s) m n = B ∧ wx = w1) (fun k _ => m - (intOf k).toNat)
    case atStart => exact ⟨0, rfl, Nat.zero_le _, hB0.out, rfl⟩
    case round =>
      obtain ⟨n, rfl, h2, h3, rfl⟩ := hrel
      by_cases hn : n < B
      · obtain ⟨hnm, hsp⟩ := run_in h3 hn hBm
        have hx := text_idx (s := s) (i := n) (by omega)
        have hc := spA_yes hsp
        have hnm' : (n : Int) < (m : Int) := by omega
        have h4 : runS (spA s) m (n + 1) = B := by rw [← run_step hnm hsp]; exact h3
        clear h3 hsp
        go_wp2
        exact ⟨⟨n + 1, by first | rfl | go_num, by omega, h4, by first | trivial | rfl⟩, by first | (simp [intOf]; done) | (simp [intOf]; omega)⟩
      · obtain rfl : n = B := by omega
        rcases Nat.lt_or_ge n m with hBlt | hBlt
        · have hsp := hst2.out hBlt
          have hx := text_idx (s := s) (i := n) (by omega)
          have hc := spA_no hsp
          have hnm' : (n : Int) < (m : Int) := by omega
          clear h3 hsp
          go_wp2_with fail
          go_loopw [6, 7, 8, 9] (fun t i _ _ wx => ∃ k : Nat, k ≤ N ∧ i = .int .i64 k ∧ t = .string (tX s k) ∧ wx = wr) (fun _ i _ _ _ => N - (intOf i).toNat)
          case atStart => exact ⟨0, Nat.zero_le _, rfl, by rw [hX0], by first | trivial | rfl⟩
          case round =>
            obtain ⟨k, hkN, rfl, rfl, rfl⟩ := hrel
            by_cases hlt : k < N
            · have hi0 : (0 : Int) ≤ (k : Int) := Int.natCast_nonneg _
              have hi1 : (k : Int) < (N : Int) := by omega
              obtain ⟨L, Gn, f1, f2, f2b, f3, f4, f5, f6, f7, f8, f9, f10, f11⟩ := HF.out k hlt
              replace f3 := Lib.hid f3
              replace f8 := Lib.hid f8
              replace f9 := Lib.hid f9
              rcases hu with ⟨h0, _⟩ | ⟨q, off, cap, hq, hq2, hcap, hw⟩
              · omega
              · injection hq with hq hq1 hq3
                subst hq
                have c0 := hw.text k hlt
                have c2 := hw.gap k hlt
                rw [f4] at c2
                clear hw HF hX0 hXN f4 hq3
                generalize wT s k = T at *
                have f2i : (1 : Int) ≤ (L : Int) := by omega
                have f5i : (Gn : Int) ≤ (s.size : Int) := by omega
                rcases Nat.lt_or_ge (k + 1) N with hlast | hlast
                · have hli : (k : Int) < (N : Int) - 1 := by omega
                  have f6i : (1 : Int) ≤ (Gn : Int) := by have := f6 hlast; omega
                  clear f6
                  go_wp2
                  go_loopw [8] (fun j wx => ∃ p : Nat, p ≤ L ∧ j = .int .i64 p ∧ wx = wr) (fun j _ => L - (intOf j).toNat)
                  case atStart => exact ⟨0, Nat.zero_le _, rfl, by first | trivial | rfl⟩
                  case round =>
                    obtain ⟨p, hpL, rfl, rfl⟩ := hrel
                    by_cases hp : p < L
                    · have hx := text_idx (s := T) (i := p) (by omega)
                      have hc := spA_no (f3.out p hp)
                      have hpi : (p : Int) < (L : Int) := by omega
                      clear f8 f9 f7
                      go_wp2
                      exact ⟨⟨p + 1, by omega, by first | rfl | go_num, by first | trivial | rfl⟩, by first | (simp [intOf]; done) | (simp [intOf]; omega)⟩
                    · obtain rfl : p = L := by omega
                      clear f3
                      go_wp2
                      go_loopw [6, 9] (fun t j wx => ∃ r : Nat, r ≤ Gn ∧ j = .int .i64 r ∧ t = .string (tY s k r) ∧ wx = wr) (fun _ j _ => Gn - (intOf j).toNat)
                      case atStart => exact ⟨0, Nat.zero_le _, rfl, by first | rfl | rw [f7], by first | trivial | rfl⟩
                      case round =>
                        obtain ⟨r, hrG, rfl, rfl, rfl⟩ := hrel
                        by_cases hr : r < Gn
                        · have hri : (r : Int) < (Gn : Int) := by omega
                          have f8r := f8.out r hr
                          have f11r := f11 r
                          clear f8 f7 f11 f9
                          go_wp2
                          exact ⟨⟨r + 1, by omega, by first | rfl | go_num, by first | rfl | rw [f8r], by first | trivial | rfl⟩, by first | (simp [intOf]; done) | (simp [intOf]; omega)⟩
                        · obtain rfl : r = Gn := by omega
                          clear f8 f7 f11
                          go_wp2
                          exact ⟨⟨k + 1, by omega, by first | rfl | go_num, by first | rfl | rw [f9.out] | exact congrArg Value.string f9.out, by first | trivial | rfl⟩, by first | (simp [intOf]; done) | (simp [intOf]; omega)⟩
                · have hli : (N : Int) - 1 ≤ (k : Int) := by omega
                  clear f6
                  go_wp2
                  go_loopw [8] (fun j wx => ∃ p : Nat, p ≤ L ∧ j = .int .i64 p ∧ wx = wr) (fun j _ => L - (intOf j).toNat)
                  case atStart => exact ⟨0, Nat.zero_le _, rfl, by first | trivial | rfl⟩
                  case round =>
                    obtain ⟨p, hpL, rfl, rfl⟩ := hrel
                    by_cases hp : p < L
                    · have hx := text_idx (s := T) (i := p) (by omega)
                      have hc := spA_no (f3.out p hp)
                      have hpi : (p : Int) < (L : Int) := by omega
                      clear f8 f9 f7
                      go_wp2
                      exact ⟨⟨p + 1, by omega, by first | rfl | go_num, by first | trivial | rfl⟩, by first | (simp [intOf]; done) | (simp [intOf]; omega)⟩
                    · obtain rfl : p = L := by omega
                      clear f3
                      go_wp2
                      go_loopw [6, 9] (fun t j wx => ∃ r : Nat, r ≤ Gn ∧ j = .int .i64 r ∧ t = .string (tY s k r) ∧ wx = wr) (fun _ j _ => Gn - (intOf j).toNat)
                      case atStart => exact ⟨0, Nat.zero_le _, rfl, by first | rfl | rw [f7], by first | trivial | rfl⟩
                      case round =>
                        obtain ⟨r, hrG, rfl, rfl, rfl⟩ := hrel
                        by_cases hr : r < Gn
                        · have hri : (r : Int) < (Gn : Int) := by omega
                          have f8r := f8.out r hr
                          have f11r := f11 r
                          clear f8 f7 f11 f9
                          go_wp2
                          exact ⟨⟨r + 1, by omega, by first | rfl | go_num, by first | rfl | rw [f8r], by first | trivial | rfl⟩, by first | (simp [intOf]; done) | (simp [intOf]; omega)⟩
                        · obtain rfl : r = Gn := by omega
                          clear f8 f7 f11
                          go_wp2
                          exact ⟨⟨k + 1, by omega, by first | rfl | go_num, by first | rfl | rw [f9.out] | exact congrArg Value.string f9.out, by first | trivial | rfl⟩, by first | (simp [intOf]; done) | (simp [intOf]; omega)⟩
            · obtain rfl : k = N := by omega
              have hXN2 := hXN.out
              clear HF hX0 hXN
              have z1 : (0 : Int) ≤ (n : Int) := Int.natCast_nonneg _
              go_wp2
              go_ret
              exact ⟨rfl, hk⟩
        · obtain rfl : n = m := by omega
          clear h3
          go_wp2_with fail
          go_loopw [6, 7, 8, 9] (fun t i _ _ wx => ∃ k : Nat, k ≤ N ∧ i = .int .i64 k ∧ t = .string (tX s k) ∧ wx = wr) (fun _ i _ _ _ => N - (intOf i).toNat)
          case atStart => exact ⟨0, Nat.zero_le _, rfl, by rw [hX0], by first | trivial | rfl⟩
          case round =>
            obtain ⟨k, hkN, rfl, rfl, rfl⟩ := hrel
            by_cases hlt : k < N
            · have hi0 : (0 : Int) ≤ (k : Int) := Int.natCast_nonneg _
              have hi1 : (k : Int) < (N : Int) := by omega
              obtain ⟨L, Gn, f1, f2, f2b, f3, f4, f5, f6, f7, f8, f9, f10, f11⟩ := HF.out k hlt
              replace f3 := Lib.hid f3
              replace f8 := Lib.hid f8
              replace f9 := Lib.hid f9
              rcases hu with ⟨h0, _⟩ | ⟨q, off, cap, hq, hq2, hcap, hw⟩
              · omega
              · injection hq with hq hq1 hq3
                subst hq
                have c0 := hw.text k hlt
                have c2 := hw.gap k hlt
                rw [f4] at c2
                clear hw HF hX0 hXN f4 hq3
                generalize wT s k = T at *
                have f2i : (1 : Int) ≤ (L : Int) := by omega
                have f5i : (Gn : Int) ≤ (s.size : Int) := by omega
                rcases Nat.lt_or_ge (k + 1) N with hlast | hlast
                · have hli : (k : Int) < (N : Int) - 1 := by omega
                  have f6i : (1 : Int) ≤ (Gn : Int) := by have := f6 hlast; omega
                  clear f6
                  go_wp2
                  go_loopw [8] (fun j wx => ∃ p : Nat, p ≤ L ∧ j = .int .i64 p ∧ wx = wr) (fun j _ => L - (intOf j).toNat)
                  case atStart => exact ⟨0, Nat.zero_le _, rfl, by first | trivial | rfl⟩
                  case round =>
                    obtain ⟨p, hpL, rfl, rfl⟩ := hrel
                    by_cases hp : p < L
                    · have hx := text_idx (s := T) (i := p) (by omega)
                      have hc := spA_no (f3.out p hp)
                      have hpi : (p : Int) < (L : Int) := by omega
                      clear f8 f9 f7
                      go_wp2
                      exact ⟨⟨p + 1, by omega, by first | rfl | go_num, by first | trivial | rfl⟩, by first | (simp [intOf]; done) | (simp [intOf]; omega)⟩
                    · obtain rfl : p = L := by omega
                      clear f3
                      go_wp2
                      go_loopw [6, 9] (fun t j wx => ∃ r : Nat, r ≤ Gn ∧ j = .int .i64 r ∧ t = .string (tY s k r) ∧ wx = wr) (fun _ j _ => Gn - (intOf j).toNat)
                      case atStart => exact ⟨0, Nat.zero_le _, rfl, by first | rfl | rw [f7], by first | trivial | rfl⟩
                      case round =>
                        obtain ⟨r, hrG, rfl, rfl, rfl⟩ := hrel
                        by_cases hr : r < Gn
                        · have hri : (r : Int) < (Gn : Int) := by omega
                          have f8r := f8.out r hr
                          have f11r := f11 r
                          clear f8 f7 f11 f9
                          go_wp2
                          exact ⟨⟨r + 1, by omega, by first | rfl | go_num, by first | rfl | rw [f8r], by first | trivial | rfl⟩, by first | (simp [intOf]; done) | (simp [intOf]; omega)⟩
                        · obtain rfl : r = Gn := by omega
                          clear f8 f7 f11
                          go_wp2
                          exact ⟨⟨k + 1, by omega, by first | rfl | go_num, by first | rfl | rw [f9.out] | exact congrArg Value.string f9.out, by first | trivial | rfl⟩, by first | (simp [intOf]; done) | (simp [intOf]; omega)⟩
                · have hli : (N : Int) - 1 ≤ (k : Int) := by omega
                  clear f6
                  go_wp2
                  go_loopw [8] (fun j wx => ∃ p : Nat, p ≤ L ∧ j = .int .i64 p ∧ wx = wr) (fun j _ => L - (intOf j).toNat)
                  case atStart => exact ⟨0, Nat.zero_le _, rfl, by first | trivial | rfl⟩
                  case round =>
                    obtain ⟨p, hpL, rfl, rfl⟩ := hrel
                    by_cases hp : p < L
                    · have hx := text_idx (s := T) (i := p) (by omega)
                      have hc := spA_no (f3.out p hp)
                      have hpi : (p : Int) < (L : Int) := by omega
                      clear f8 f9 f7
                      go_wp2
                      exact ⟨⟨p + 1, by omega, by first | rfl | go_num, by first | trivial | rfl⟩, by first | (simp [intOf]; done) | (simp [intOf]; omega)⟩
                    · obtain rfl : p = L := by omega
                      clear f3
                      go_wp2
                      go_loopw [6, 9] (fun t j wx => ∃ r : Nat, r ≤ Gn ∧ j = .int .i64 r ∧ t = .string (tY s k r) ∧ wx = wr) (fun _ j _ => Gn - (intOf j).toNat)
                      case atStart => exact ⟨0, Nat.zero_le _, rfl, by first | rfl | rw [f7], by first | trivial | rfl⟩
                      case round =>
                        obtain ⟨r, hrG, rfl, rfl, rfl⟩ := hrel
                        by_cases hr : r < Gn
                        · have hri : (r : Int) < (Gn : Int) := by omega
                          have f8r := f8.out r hr
                          have f11r := f11 r
                          clear f8 f7 f11 f9
                          go_wp2
                          exact ⟨⟨r + 1, by omega, by first | rfl | go_num, by first | rfl | rw [f8r], by first | trivial | rfl⟩, by first | (simp [intOf]; done) | (simp [intOf]; omega)⟩
                        · obtain rfl : r = Gn := by omega
                          clear f8 f7 f11
                          go_wp2
                          exact ⟨⟨k + 1, by omega, by first | rfl | go_num, by first | rfl | rw [f9.out] | exact congrArg Value.string f9.out, by first | trivial | rfl⟩, by first | (simp [intOf]; done) | (simp [intOf]; omega)⟩
            · obtain rfl : k = N := by omega
              have hXN2 := hXN.out
              clear HF hX0 hXN
              have z1 : (0 : Int) ≤ (n : Int) := Int.natCast_nonneg _
              go_wp2
              go_ret
              exact ⟨rfl, hk⟩
  · have HS := Lib.hid (fun wx => wordsSplit_long s wx (by omega) hm)
    have h8 : (80 : Int) < (s.size : Int) := by omega
    have hk : Kept w w := Kept.refl w
    go_enter Try.func4, Try.ntmps4
    go_wp2_with fail
    refine (awake5_any _).mono ?_
    rintro e w1 ⟨rfl, hn⟩
    replace hk := hk.trans hn
    clear hn
    go_wp2_with fail
    refine (HS.out _).mono ?_
    rintro e w1 ⟨rfl, hn⟩
    replace hk := hk.trans hn
    clear hn
    go_wp2_with fail
    refine (num_any _ _).mono ?_
    rintro e w1 ⟨rfl, rfl⟩
    go_wp2
    go_ret
    exact ⟨rfl, hk⟩
theorem wordsJoin_walk (s : ByteArray) (hm : s.size ≤ 140737488351232) (w : World) :
    Calls Try.prog 4 #[.string s] w fun e w' => e = .returned (.bool true) ∧ Kept w w' := wordsJoin_main s w hm
end Go.Proofs.Ytbegdnpckjfgbaa
