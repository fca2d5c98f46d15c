/- Layer 5: marks make no word wider; wide runes make it as wide as they are. -/
import Derived.Test.YtbegdnpckjfgbaaAwake5
import Derived.Test.YtbegdnpckjfgbaaMask
namespace Go.Proofs.Ytbegdnpckjfgbaa
open Go.RowKit Go.Lib
set_option linter.unusedSimpArgs false
set_option linter.unusedVariables false
def mS : Nat → ByteArray
  | 0 => ⟨#[97]⟩
  | k + 1 => mS k ++ ⟨#[204, 129]⟩
def mT : Nat → ByteArray
  | 0 => ⟨#[97]⟩
  | k + 1 => mT k ++ ⟨#[228, 184, 173]⟩
def mST (a b : Nat) : ByteArray := mS a ++ ⟨#[32]⟩ ++ mT b
theorem marks_all : ∀ a, a < 8 → ∀ b, b < 8 → (mST a b).size ≤ 80 ∧ wN (mST a b) = 2 ∧ wA (mST a b) 0 = 512 ∧ wA (mST a b) 1 = 512 + 1024 * (b : Int) := by decide +kernel
theorem mS_size : ∀ a, a < 8 → (mS a).size ≤ 80 ∧ (mT a).size ≤ 80 ∧ (mS a ++ ⟨#[32]⟩).size ≤ 80 := by decide +kernel
def mA (b i : Nat) : Int := if i = 0 then 512 else 512 + 1024 * (b : Int)
theorem marks_tot : ∀ b, b < 8 → totS (mA b) 2 = 1280 + 1024 * (b : Int) := by decide +kernel
theorem marks_split (a b : Nat) (ha : a < 8) (hb : b < 8) (w : World) :
    Calls Try.prog 16 #[.string (mS a ++ ⟨#[32]⟩ ++ mT b)] w fun e w' => ∃ u, e = .returned (.tuple #[u, .int .i64 0]) ∧ WV w' u 2 (wT (mST a b)) (mA b) (wG (mST a b)) ∧ Kept w w' := by
  obtain ⟨h1, h2, h3, h4⟩ := marks_all a ha b hb
  refine (wordsSplit_any (mST a b) w (by omega)).mono fun e w' ⟨u, he, ho, hk⟩ => ⟨u, ?_, ?_, hk⟩
  · rw [he]; unfold splE; rw [if_pos h1]
  · rw [show splN (mST a b) = 2 by unfold splN; rw [if_pos h1, h2]] at ho
    refine wv_same ho.wv fun i hi => ⟨rfl, ?_, rfl⟩
    have h5 : i = 0 ∨ i = 1 := by omega
    rcases h5 with rfl | rfl
    · exact h3
    · exact h4
set_option maxHeartbeats 2000000 in
theorem wordsMarks_main (x y : Int) (a b : Nat) (ha : a < 8) (hb : b < 8) (hx : bits .and .i64 x 7 = (a : Int)) (hy : bits .and .i64 y 7 = (b : Int)) (w : World) :
    Calls Try.prog 7 #[.int .i64 x, .int .i64 y] w fun e w' => e = .returned (.bool true) ∧ Kept w w' := by
  have hk : Kept w w := Kept.refl w
  go_enter Try.func7, Try.ntmps7
  go_wp2_with fail
  refine (awake5_any _).mono ?_
  rintro e w1 ⟨rfl, hn⟩
  replace hk := hk.trans hn
  clear hn
  go_wp2
  go_loopw [7, 9] (fun t i wx => ∃ k : Nat, k ≤ a ∧ i = .int .i64 k ∧ t = .string (mS k) ∧ wx = w1) (fun _ i _ => a - (intOf i).toNat)
  case atStart => exact ⟨0, Nat.zero_le _, rfl, rfl, rfl⟩
  case round =>
    obtain ⟨k, hka, rfl, rfl, rfl⟩ := hrel
    by_cases hlt : k < a
    · have hi1 : (k : Int) < (a : Int) := by omega
      have hsz := (mS_size k (by omega)).1
      go_wp2
      exact ⟨⟨k + 1, by omega, by first | rfl | go_num, rfl, by first | trivial | rfl⟩, by first | (simp [intOf]; done) | (simp [intOf]; omega)⟩
    · obtain rfl : k = a := by omega
      go_wp2
      go_loopw [8, 10] (fun t i wx => ∃ j : Nat, j ≤ b ∧ i = .int .i64 j ∧ t = .string (mT j) ∧ wx = wr) (fun _ i _ => b - (intOf i).toNat)
      case atStart => exact ⟨0, Nat.zero_le _, rfl, rfl, rfl⟩
      case round =>
        obtain ⟨j, hjb, rfl, rfl, rfl⟩ := hrel
        by_cases hlt2 : j < b
        · have hi1 : (j : Int) < (b : Int) := by omega
          have hsz := (mS_size j (by omega)).2.1
          go_wp2
          exact ⟨⟨j + 1, by omega, by first | rfl | go_num, rfl, by first | trivial | rfl⟩, by first | (simp [intOf]; done) | (simp [intOf]; omega)⟩
        · obtain rfl : j = b := by omega
          have HT := Lib.hid (marks_tot j hb)
          have hsz1 := (mS_size k ha).1
          have hsz2 := (mS_size j hb).2.1
          have hsz3 := (mS_size k ha).2.2
          go_wp2_with fail
          refine (marks_split k j ha hb _).mono ?_
          rintro e w1 ⟨u, rfl, hu, hn⟩
          replace hk := hk.trans hn
          clear hn
          go_wp2_with fail
          refine (num_any _ _).mono ?_
          rintro e w1 ⟨rfl, rfl⟩
          have hu2 := hu
          have HU := Lib.hid (fun wx (hx : WV wx u 2 (wT (mST k j)) (mA j) (wG (mST k j))) => (show Calls Try.prog 22 #[u] wx (fun e w' => e = .returned (.int .i64 (1280 + 1024 * (j : Int))) ∧ Kept wx w') from by have := wordsTotal_any u 2 _ _ _ wx hx (by decide); rw [HT.out] at this; exact this))
          rcases hu2 with ⟨h0, _⟩ | ⟨q, off, cap, rfl, h2, h3, h4⟩
          · omega
          · have c0 := h4.adv 0 (by decide)
            have c1 := h4.adv 1 (by decide)
            rw [show mA j 0 = 512 from rfl, Nat.zero_mul, Nat.add_zero] at c0
            rw [show mA j 1 = 512 + 1024 * (j : Int) from rfl, Nat.one_mul] at c1
            clear h4 HT
            go_wp2_with fail
            refine (HU.out _ hu).mono ?_
            rintro e w1 ⟨rfl, hn⟩
            replace hk := hk.trans hn
            replace hu := hu.kept hn
            clear hn
            clear c0 c1
            go_wp2
            go_ret
            exact ⟨rfl, hk⟩
theorem wordsMarks_walk (x y : Int) (w : World) :
    Calls Try.prog 7 #[.int .i64 x, .int .i64 y] w fun e w' => e = .returned (.bool true) ∧ Kept w w' := by
  obtain ⟨a, ha, a0, a1⟩ := masked x 3 7 (by decide) (by decide)
  obtain ⟨b, hb, b0, b1⟩ := masked y 3 7 (by decide) (by decide)
  obtain ⟨a', rfl⟩ := Int.eq_ofNat_of_zero_le a0
  obtain ⟨b', rfl⟩ := Int.eq_ofNat_of_zero_le b0
  exact wordsMarks_main x y a' b' (by omega) (by omega) ha hb w
end Go.Proofs.Ytbegdnpckjfgbaa
