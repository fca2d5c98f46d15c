/- Layer 4: bytes of no rune. -/
import Derived.Test.YtkapmnbkmljpkacWidth
import Derived.Test.YtkapmnbkmljpkacMask
import Derived.Laws.Concat
namespace Go.Proofs.Ytkapmnbkmljpkac
open Go.RowKit
set_option linter.unusedSimpArgs false
set_option linter.unusedVariables false
def ffs : Nat → ByteArray
  | 0 => ⟨#[]⟩
  | k + 1 => (ffs k).push 255
theorem ffs_size (k : Nat) : (ffs k).size = k := by
  induction k with
  | zero => rfl
  | succ k ih => show ((ffs k).push 255).size = k + 1; rw [size_push', ih]
theorem app_push (s : ByteArray) (c : UInt8) : s ++ ⟨#[c]⟩ = s.push c := by
  apply ByteArray.ext
  simp [ByteArray.data_append]
theorem app_push2 (s : ByteArray) (c d : UInt8) : s ++ ⟨#[c, d]⟩ = (s.push c).push d := by
  apply ByteArray.ext
  rw [← Array.toList_inj]
  simp [ByteArray.data_append]
theorem ffs_width : ∀ k, k < 16 → widthS (⟨#[97, 32]⟩ ++ ffs k ++ ⟨#[105]⟩) = 768 + 1024 * (k : Int) + 192 := by decide +kernel
theorem more_width (s : ByteArray) : widthS (s ++ ⟨#[32, 97]⟩) = wrap64 (widthS s + 768) := by
  rw [app_push2, width_push (by decide), width_push (by decide)]
  rw [if_pos (by decide), if_pos (by decide)]
  show wrap64 (wrap64 (widthS s + 256) + 512) = _
  unfold wrap64
  omega
set_option maxHeartbeats 1000000 in
theorem glyphBytes_walk (a : Int) (s : ByteArray) (hs : s.size ≤ 140737488351232) (w : World) :
    Calls Try.prog 4 #[.int .i64 a, .string s] w fun e w' => e = .returned (.bool true) ∧ Kept w w' := by
  obtain ⟨n, hn, n1, n2⟩ := masked a 4 15 (by decide) (by decide)
  obtain ⟨n, rfl⟩ := Int.eq_ofNat_of_zero_le n1
  have hf := ffs_width n (by omega)
  have hm := more_width s
  have Hf := Lib.hid hf
  have Hm := Lib.hid hm
  clear hf hm
  have hk : Kept w w := Kept.refl w
  go_enter Try.func4, Try.ntmps4
  go_wp2_with fail
  refine (awake4_any _).mono ?_
  rintro e w1 ⟨rfl, hn⟩
  replace hk := hk.trans hn
  clear hn
  go_wp2
  go_loopw [6, 7] (fun t i wx => ∃ k : Nat, k ≤ n ∧ i = .int .i64 k ∧ t = .string (ffs k) ∧ wx = w1) (fun _ i _ => n - (intOf i).toNat)
  case atStart => exact ⟨0, Nat.zero_le _, rfl, rfl, rfl⟩
  case round =>
    obtain ⟨k, hk4, rfl, rfl, rfl⟩ := hrel
    have hz : (ffs k).size ≤ 15 := by rw [ffs_size]; omega
    by_cases hlt : k < n
    · have hi1 : (k : Int) < (n : Int) := by omega
      have Ha := Lib.hid (app_push (ffs k) 255)
      go_wp2
      go_roundw
      case rel => exact ⟨k + 1, by omega, by go_num, by rw [Ha.out]; rfl, trivial⟩
      case measure => simp [intOf]; omega
    · obtain rfl : k = n := by omega
      go_wp2_with (first
        | (go_at_call 10; refine (num_any _ _).mono ?_; rintro e w1 ⟨rfl, rfl⟩)
        | (go_at_call 13; refine (glyphWidth_any _ _).mono ?_; rintro e w1 ⟨rfl, hn⟩; replace hk := Kept.trans (by first | ((repeat (first | with_reducible exact hk | with_reducible refine Kept.alloc ?_ _ | with_reducible refine Kept.drew ?_ | with_reducible refine Kept.drewN ?_ _ | with_reducible refine Kept.set ?_ (by first | (simp; done) | (simp; omega) | omega) _)); done) | exact hk | exact (hk.alloc _) | exact ((hk.alloc _).alloc _) | exact (((hk.alloc _).alloc _).alloc _) | exact ((((hk.alloc _).alloc _).alloc _).alloc _) | exact (((((hk.alloc _).alloc _).alloc _).alloc _).alloc _) | exact ((((((hk.alloc _).alloc _).alloc _).alloc _).alloc _).alloc _)) hn)
        | fail)
      all_goals
        first
        | (go_ret
           exact ⟨ret_bool (by simp [Hm.out]), (by first | ((repeat (first | with_reducible exact hk | with_reducible refine Kept.alloc ?_ _ | with_reducible refine Kept.drew ?_ | with_reducible refine Kept.drewN ?_ _ | with_reducible refine Kept.set ?_ (by first | (simp; done) | (simp; omega) | omega) _)); done) | exact hk | exact (hk.alloc _) | exact ((hk.alloc _).alloc _) | exact (((hk.alloc _).alloc _).alloc _) | exact ((((hk.alloc _).alloc _).alloc _).alloc _) | exact (((((hk.alloc _).alloc _).alloc _).alloc _).alloc _) | exact ((((((hk.alloc _).alloc _).alloc _).alloc _).alloc _).alloc _) | (repeat (first | exact hk | refine Kept.alloc ?_ _ | refine Kept.drew ?_ | refine Kept.drewN ?_ _ | refine Kept.set ?_ (by first | (simp; done) | (simp; omega) | omega) _)))⟩)
        | (exfalso; simp_all [Hf.out])
end Go.Proofs.Ytkapmnbkmljpkac
