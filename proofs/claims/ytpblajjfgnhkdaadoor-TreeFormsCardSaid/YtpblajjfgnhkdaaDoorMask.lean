/- A number under a mask of low bits is its rest. -/
import Derived.Test.YtpblajjfgnhkdaaDoorBase
import Derived.Laws.BitsAllLaws
import Derived.Laws.BitsLemmas
namespace Go.Proofs.YtpblajjfgnhkdaaDoor
open Go.RowKit
theorem and_mask (a : Int) (k : Nat) (m : Int) (hm : m = 2 ^ k - 1) (hk : k ≤ 32) : bits .and .i64 a m = a % (m + 1) := by
  have hp : (2 : Int) ^ k = ((2 ^ k : Nat) : Int) := by simp
  have hle : 2 ^ k ≤ 2 ^ 32 := Nat.pow_le_pow_right (by omega) hk
  have hpos : 0 < 2 ^ k := Nat.pow_pos (by omega)
  have e1 : (BitVec.ofInt 64 m).toNat = 2 ^ k - 1 := by
    have : m = ((2 ^ k - 1 : Nat) : Int) := by omega
    rw [this, BitVec.ofInt_natCast, BitVec.toNat_ofNat]
    exact Nat.mod_eq_of_lt (by omega)
  have e2 : ((BitVec.ofInt 64 a &&& BitVec.ofInt 64 m).toNat : Int) = a % (m + 1) := by
    rw [BitVec.toNat_and, e1, Nat.and_two_pow_sub_one_eq_mod, BitVec.toNat_ofInt]
    have h0 : 0 ≤ a % ((2 ^ 64 : Nat) : Int) := Int.emod_nonneg _ (by omega)
    rw [Int.natCast_emod, Int.toNat_of_nonneg h0]
    have hd : (((2 ^ k : Nat) : Int)) ∣ ((2 ^ 64 : Nat) : Int) := Int.natCast_dvd_natCast.2 (Nat.pow_dvd_pow 2 (by omega))
    rw [Int.emod_emod_of_dvd _ hd]
    congr 1; omega
  have h1 : 0 ≤ a % (m + 1) := Int.emod_nonneg _ (by omega)
  have h2 : a % (m + 1) < m + 1 := Int.emod_lt_of_pos _ (by omega)
  show IntKind.i64.wrap ((BitVec.ofInt 64 a &&& BitVec.ofInt 64 m).toNat : Int) = _
  rw [e2, IntKind.wrap_i64]
  omega
theorem mask_bd (a m : Int) (hm : 0 ≤ m) : 0 ≤ a % (m + 1) ∧ a % (m + 1) ≤ m := by
  have h1 : 0 ≤ a % (m + 1) := Int.emod_nonneg _ (by omega)
  have h2 : a % (m + 1) < m + 1 := Int.emod_lt_of_pos _ (by omega)
  omega
theorem masked (a : Int) (k : Nat) (m : Int) (hm : m = 2 ^ k - 1) (hk : k ≤ 32) : ∃ x, bits .and .i64 a m = x ∧ 0 ≤ x ∧ x ≤ m := by
  have hp : (2 : Int) ^ k = ((2 ^ k : Nat) : Int) := by simp
  have hpos : 0 < 2 ^ k := Nat.pow_pos (by omega)
  exact ⟨_, and_mask a k m hm hk, mask_bd a m (by omega)⟩
/-- the rest of a number as an unsigned one -/
theorem urest (a n : Int) (hn : 1 ≤ n) (hn' : n ≤ 65536) : ∃ i, wrap64 ((IntKind.u64.wrap a).tmod n) = i ∧ 0 ≤ i ∧ i < n := by
  have h0 : 0 ≤ IntKind.u64.wrap a := by rw [IntKind.wrap_u64]; omega
  have h1 : (IntKind.u64.wrap a).tmod n = IntKind.u64.wrap a % n := Int.tmod_eq_emod_of_nonneg h0
  have h2 := Int.emod_nonneg (IntKind.u64.wrap a) (show n ≠ 0 by omega)
  have h3 := Int.emod_lt_of_pos (IntKind.u64.wrap a) (show 0 < n by omega)
  refine ⟨IntKind.u64.wrap a % n, ?_, h2, h3⟩
  rw [h1]; unfold wrap64; omega
/-- the same, as a switch spells it -/
theorem urest2 (a n : Int) (hn : 1 ≤ n) : ∃ i, (IntKind.u64.wrap a).tmod n = i ∧ 0 ≤ i ∧ i < n := by
  have h0 : 0 ≤ IntKind.u64.wrap a := by rw [IntKind.wrap_u64]; omega
  exact ⟨_, Int.tmod_eq_emod_of_nonneg h0, Int.emod_nonneg _ (by omega), Int.emod_lt_of_pos _ (by omega)⟩
end Go.Proofs.YtpblajjfgnhkdaaDoor
