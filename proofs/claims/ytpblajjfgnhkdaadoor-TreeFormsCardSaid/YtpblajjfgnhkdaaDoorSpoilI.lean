/- Rows of numbers written over. -/
import Derived.Test.YtpblajjfgnhkdaaDoorLendI
namespace Go.Proofs.YtpblajjfgnhkdaaDoor
open Go.RowKit
set_option linter.unusedSimpArgs false
set_option linter.unusedVariables false
/-- numbers from k on -/
def Rest (cur : Array Value) (k m : Nat) : Prop := ∀ i, k ≤ i → i < m → ∃ x : Int, cur[i]? = some (.int .i64 x)
theorem Rest.set {cur : Array Value} {k m : Nat} (h : Rest cur k m) (v : Value) : Rest (cur.setIfInBounds k v) (k + 1) m := by
  intro i hi hm
  obtain ⟨x, hx⟩ := h i (by omega) hm
  exact ⟨x, by rw [Array.getElem?_setIfInBounds_ne (by omega)]; exact hx⟩
theorem spoilInts_none (o : Option Addr) (cap : Nat) (w : World) :
    Calls Tryd.prog 21 #[.slice o 0 cap] w fun e w' => e = .returned (.tuple #[]) ∧ Kept w w' := by
  go_enter Tryd.func21, Tryd.ntmps21
  go_wp2
  refine wp_loop_rounds 1 ?_
  rw [rounds_succ]
  go_wp2
  go_end0
  exact ⟨rfl, Kept.refl _⟩
set_option maxHeartbeats 1000000 in
theorem spoilInts_some (a : World) (g m cap : Nat) (cur0 : Array Value) (w : World) (ha : Kept a w) (hg : a.heap.size ≤ g) (hm : m ≤ 17592186043904) (h1 : Own w g 3 cur0) (h2 : Rest cur0 0 m) :
    Calls Tryd.prog 21 #[.slice (some ⟨g, 0, none⟩) m cap] w fun e w' => e = .returned (.tuple #[]) ∧ Kept a w' := by
  go_enter Tryd.func21, Tryd.ntmps21
  go_wp2
  go_loopw [2] (fun n wx => ∃ (k : Nat) (cur : Array Value), k ≤ m ∧ n = .int .i64 k ∧ Kept a wx ∧ Own wx g 3 cur ∧ Rest cur k m) (fun n _ => m - (intOf n).toNat)
  case atStart => exact ⟨0, cur0, Nat.zero_le _, rfl, ha, h1, h2⟩
  case round =>
    clear ha h1 h2
    obtain ⟨k, cur, hkm, rfl, hk, ho, hmid⟩ := hrel
    by_cases hlt : k < m
    · obtain ⟨x, hx⟩ := hmid k (Nat.le_refl _) hlt
      have c1 : wr.cell? ⟨g, k, none⟩ = some (.int .i64 x) := (ho.cell _).trans hx
      have f1 := ho.free k
      have H := Lib.hid (And.intro ho hmid)
      clear ho hmid hx
      go_wp2
      go_roundw
      case rel => exact ⟨k + 1, _, by omega, by go_num, hk.set hg _, H.out.1.set k _, H.out.2.set _⟩
      case measure => simp [intOf]; omega
    · go_wp2
      go_end0
      exact ⟨rfl, hk⟩
theorem spoilInts_any {a w : World} {v : Value} {m : Nat} {Y : Nat → Int} (ha : Kept a w) (hm : m ≤ 17592186043904) (hv : NewOnes 3 a w v m Y) :
    Calls Tryd.prog 21 #[v] w fun e w' => e = .returned (.tuple #[]) ∧ Kept a w' := by
  rcases hv with ⟨rfl, o, cap, rfl, _⟩ | ⟨b, cap, cur, rfl, h2, h3, h4, h5, h6, h7, h8⟩
  · exact (spoilInts_none o cap w).mono fun e w' h => ⟨h.1, ha.trans h.2⟩
  · exact spoilInts_some a b m cap cur w ha h5 hm h6 fun i _ hi => ⟨Y i, h8 i hi⟩
theorem Kept.kept {a b c : World} (h : Kept a b) (k : Kept b c) : Kept a c := h.trans k
end Go.Proofs.YtpblajjfgnhkdaaDoor
