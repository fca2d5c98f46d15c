/- Layer 5: what every program answers that is one; any text, any words. -/
import Derived.Test.YtbegdnpckjfgbaaSplitAny
import Derived.Test.YtbegdnpckjfgbaaWordsN
import Derived.Test.YtbegdnpckjfgbaaSame
import Derived.Laws.BytesArg
namespace Go.Proofs.Ytbegdnpckjfgbaa
open Go.RowKit Go.Lib
set_option linter.unusedSimpArgs false
set_option linter.unusedVariables false
def s5 : ByteArray := ⟨#[32, 32, 97, 98, 32, 32, 105, 32]⟩
theorem n5 : wN s5 = 2 := by kernel_rfl
def T5 (i : Nat) : ByteArray := if i = 0 then ⟨#[97, 98]⟩ else ⟨#[105]⟩
def A5 (i : Nat) : Int := if i = 0 then 1024 else 192
def G5 (i : Nat) : Int := if i = 0 then 2 else 1
theorem split5 (w : World) :
    Calls Try.prog 16 #[.string ⟨#[32, 32, 97, 98, 32, 32, 105, 32]⟩] w fun e w' => ∃ u, e = .returned (.tuple #[u, .int .i64 0]) ∧ WV w' u 2 T5 A5 G5 ∧ Kept w w' :=
  (wordsSplit_any s5 w (by decide)).mono fun e w' ⟨u, he, ho, hk⟩ => ⟨u, he, by
    rw [show splN s5 = 2 from n5] at ho
    refine wv_same ho.wv fun i hi => ?_
    have h3 : i = 0 ∨ i = 1 := by omega
    rcases h3 with rfl | rfl
    · exact ⟨show wT s5 0 = ⟨#[97, 98]⟩ by kernel_rfl, show wA s5 0 = 1024 by kernel_rfl, show wG s5 0 = 2 by kernel_rfl⟩
    · exact ⟨show wT s5 1 = ⟨#[105]⟩ by kernel_rfl, show wA s5 1 = 192 by kernel_rfl, show wG s5 1 = 1 by kernel_rfl⟩, hk⟩
theorem wv_two {w : World} {b : Nat} {t : TypeId} (h : Own w b t #[.string ⟨#[97, 98]⟩, .int .i64 1024, .int .i64 2, .string ⟨#[105]⟩, .int .i64 192, .int .i64 1]) : WV w (.slice (some ⟨b, 0, none⟩) 2 2) 2 T5 A5 G5 := by
  have two : ∀ i, i < 2 → i = 0 ∨ i = 1 := fun i hi => by omega
  refine .inr ⟨b, 0, 2, rfl, by decide, by decide, ⟨fun i hi => ?_, fun i hi => ?_, fun i hi => ?_⟩⟩
  · rcases two i hi with rfl | rfl
    · exact h.cell 0
    · exact h.cell 3
  · rcases two i hi with rfl | rfl
    · exact h.cell 1
    · exact h.cell 4
  · rcases two i hi with rfl | rfl
    · exact h.cell 2
    · exact h.cell 5
theorem made_bytes {w : World} {b n : Nat} {t : TypeId} (h : Own w b t (madeCells #[.int .u8 0] n)) : ∀ i, i < n → w.cell? ⟨b, 0 + i, none⟩ = some (.int .u8 ((List.replicate n (0 : Int)).getD i 0)) := by
  intro i hi
  rw [Nat.zero_add, h.cell]
  have e : (madeCells #[.int .u8 0] n).toList = List.replicate n (.int .u8 0) := toList_madeCells_one _ n
  rw [← Array.getElem?_toList, e]
  simp [hi]
theorem long81 (n : Nat) (h : 80 < n) (hn : n ≤ 1000) (w : World) :
    Calls Try.prog 16 #[.string (strOfNums (List.replicate n 0))] w fun e w' => e = .returned (.tuple #[.slice none 0 0, .int .i64 500]) ∧ Kept w w' :=
  wordsSplit_long _ w (by rw [strOfNums_size]; simpa using h) (by rw [strOfNums_size]; simp; omega)
theorem tot5 : totS A5 2 = 1472 := by decide +kernel
theorem long5 : longS A5 2 = 1024 := by decide +kernel
set_option maxHeartbeats 2000000 in
theorem awake5_any (w : World) :
    Calls Try.prog 26 #[] w fun e w' => e = .returned (.bool true) ∧ Kept w w' := by
  obtain ⟨i0, hi, hz0, hz1, hz2⟩ := info_parts u8Info
  have hk : Kept w w := Kept.refl w
  go_enter Try.func26, Try.ntmps26
  go_wp2_with fail
  refine (split5 _).mono ?_
  rintro e w1 ⟨u, rfl, hw, hn⟩
  replace hk := hk.trans hn
  clear hn
  have hmk := run_make (P := Try.prog) w1 38 5 i0 _ Try.underlying38 hi hz0 .i64 .i64 81 81 (by decide) (by decide) (by rw [hz2]; decide) (by decide)
  rw [hz1] at hmk
  obtain ⟨W, hW⟩ : ∃ W, W = w1.alloc (.cells (madeCells (Value.cells (.int .u8 0)) (Int.toNat 81 * 1)) 5) := ⟨_, rfl⟩
  rw [← hW] at hmk
  have oW : Own W w1.heap.size 5 (madeCells #[.int .u8 0] 81) := hW ▸ Own.new w1 _ _
  have kW : Kept w1 W := hW ▸ (Kept.refl w1).alloc _
  have hcv := run_convert_bytes_arg (P := Try.prog) W 38 5 Try.underlying38 Try.underlying5 w1.heap.size 0 81 81 (List.replicate 81 0) (by simp) (made_bytes oW) 9 Try.underlying9
  replace hk := hk.trans kW
  replace hw := hw.kept kW
  clear hW oW kW hi hz0 hz1 hz2
  go_wp2_with fail
  refine (long81 81 (by decide) (by decide) _).mono ?_
  rintro e w1 ⟨rfl, hn⟩
  replace hk := hk.trans hn
  replace hw := hw.kept hn
  clear hn
  go_wp2_with fail
  refine with_boxes1 ?_
  intro X hX l
  have hsz := hk.size
  replace hk := hk.trans hX
  replace hw := hw.kept hX
  clear hX
  refine (sameWords_yes hw (wv_two l) (by decide)).mono ?_
  rintro e w1 ⟨rfl, hn⟩
  replace hk := hk.trans hn
  replace hw := hw.kept hn
  replace l := l.kept hn
  clear hn
  go_wp2_with fail
  refine (num_any _ _).mono ?_
  rintro e w1 ⟨rfl, rfl⟩
  go_wp2_with fail
  refine (num_any _ _).mono ?_
  rintro e w1 ⟨rfl, rfl⟩
  go_wp2_with fail
  refine ((show Calls Try.prog 20 #[u] w1 (fun e w' => e = .returned (.int .i64 1024) ∧ Kept w1 w') from by have := wordsLongest_any u 2 T5 A5 G5 _ hw (by decide); rw [long5] at this; exact this)).mono ?_
  rintro e w1 ⟨rfl, hn⟩
  replace hk := hk.trans hn
  replace hw := hw.kept hn
  replace l := l.kept hn
  clear hn
  go_wp2_with fail
  refine ((show Calls Try.prog 22 #[u] w1 (fun e w' => e = .returned (.int .i64 1472) ∧ Kept w1 w') from by have := wordsTotal_any u 2 T5 A5 G5 _ hw (by decide); rw [tot5] at this; exact this)).mono ?_
  rintro e w1 ⟨rfl, hn⟩
  replace hk := hk.trans hn
  replace hw := hw.kept hn
  replace l := l.kept hn
  clear hn
  go_wp2
  go_ret
  exact ⟨rfl, hk⟩
set_option maxHeartbeats 4000000 in
theorem words_main (s : ByteArray) (v : Value) (n : Nat) (S : Nat → ByteArray) (A G : Nat → Int) (w : World) (hm : s.size ≤ 140737488351232) (hv : WV w v n S A G) (hb : n ≤ 4398046510976) :
    Calls Try.prog 3 #[.string s, v] w fun e w' => e = .returned (.bool true) ∧ Kept w w' := by
  obtain ⟨sl, cap, rfl⟩ := hv.shape
  have H1 := Lib.hid (fun wx => wordsSplit_any s wx hm)
  have H2 := Lib.hid (fun wx => refSplit_any s wx hm)
  have hN := splN_80 s
  unfold SplitAll at H1 H2
  generalize splN s = N at *
  generalize splE s = E at *
  generalize wT s = T at *
  generalize wA s = AA at *
  generalize wG s = GG at *
  clear hm
  have hk : Kept w w := Kept.refl w
  go_enter Try.func3, Try.ntmps3
  go_wp2_with fail
  refine (lendWords_any sl n cap S A G _ (hv.kept hk) hb).mono ?_
  rintro e w1 ⟨x, rfl, lx, hn⟩
  replace hk := hk.trans hn
  clear hn
  go_wp2_with fail
  obtain ⟨wq, hwq⟩ : ∃ wq : World, wq = w1 := ⟨_, rfl⟩
  have hkq : Since wq w1 := ⟨hwq ▸ Kept.refl wq⟩
  have hk0 : Kept w wq := hwq ▸ hk
  have lx0 : Lent w wq x n S A G := hwq ▸ lx
  refine (H1.out _).mono ?_
  rintro e w1 ⟨u, rfl, hu1, hn⟩
  rw [← hwq] at hu1
  replace hkq := hkq.kept hn
  replace hk := hk.trans hn
  replace lx := lx.kept hn
  clear hn
  go_wp2_with fail
  refine (H2.out _).mono ?_
  rintro e w1 ⟨u2, rfl, hu2, hn⟩
  replace hk := hk.trans hn
  replace lx := lx.kept hn
  replace hu1 := hu1.kept hn
  replace hkq := hkq.kept hn
  clear hn
  go_wp2_with fail
  refine (sameWords_yes hu1.wv hu2.wv (by omega)).mono ?_
  rintro e w1 ⟨rfl, hn⟩
  replace hk := hk.trans hn
  replace lx := lx.kept hn
  replace hu1 := hu1.kept hn
  replace hkq := hkq.kept hn
  replace hu2 := hu2.kept hn
  clear hn
  go_wp2_with fail
  refine (num_any _ _).mono ?_
  rintro e w1 ⟨rfl, rfl⟩
  go_wp2_with fail
  refine (wordsLongest_any _ n S A G _ lx.wv hb).mono ?_
  rintro e w1 ⟨rfl, hn⟩
  replace hk := hk.trans hn
  replace lx := lx.kept hn
  replace hu1 := hu1.kept hn
  replace hkq := hkq.kept hn
  replace hu2 := hu2.kept hn
  clear hn
  go_wp2_with fail
  refine (refLongest_any _ n S A G _ (hv.kept hk) hb).mono ?_
  rintro e w1 ⟨rfl, hn⟩
  replace hk := hk.trans hn
  replace lx := lx.kept hn
  replace hu1 := hu1.kept hn
  replace hkq := hkq.kept hn
  replace hu2 := hu2.kept hn
  clear hn
  go_wp2_with fail
  refine (wordsTotal_any _ n S A G _ lx.wv hb).mono ?_
  rintro e w1 ⟨rfl, hn⟩
  replace hk := hk.trans hn
  replace lx := lx.kept hn
  replace hu1 := hu1.kept hn
  replace hkq := hkq.kept hn
  replace hu2 := hu2.kept hn
  clear hn
  go_wp2_with fail
  refine (refTotal_any _ n S A G _ (hv.kept hk) hb).mono ?_
  rintro e w1 ⟨rfl, hn⟩
  replace hk := hk.trans hn
  replace lx := lx.kept hn
  replace hu1 := hu1.kept hn
  replace hkq := hkq.kept hn
  replace hu2 := hu2.kept hn
  clear hn
  go_wp2_with fail
  refine (spoilWords_any hkq.k (by omega) hu1).mono ?_
  rintro e w9 ⟨rfl, hn⟩
  replace hk := hk0.trans hn
  replace lx := lx0.kept hn
  clear lx0 hk0 hu1 hu2 hkq hwq
  go_wp2_with fail
  refine (keptWords_yes lx (hv.kept hk) hb).mono ?_
  rintro e w10 ⟨rfl, hn⟩
  replace hk := hk.trans hn
  go_wp2_with fail
  refine (awake5_any _).mono ?_
  rintro e w11 ⟨rfl, hn⟩
  replace hk := hk.trans hn
  go_wp2
  go_ret
  exact ⟨rfl, hk⟩
theorem words_walk (s : ByteArray) (v : Value) (n : Nat) (S : Nat → ByteArray) (A G : Nat → Int) (hm : s.size ≤ 140737488351232) (w : World) (hv : WV w v n S A G) (_hf : Fair n S A G) (hb : n ≤ 4398046510976) :
    Calls Try.prog 3 #[.string s, v] w fun e w' => e = .returned (.bool true) ∧ Kept w w' := words_main s v n S A G w hm hv hb
end Go.Proofs.Ytbegdnpckjfgbaa
