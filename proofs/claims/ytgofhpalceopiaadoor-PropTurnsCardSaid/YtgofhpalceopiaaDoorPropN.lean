/- Layer 9: the property that has a name. -/
import Derived.Test.YtgofhpalceopiaaDoorProp
import Derived.Deep.MidRow
import Derived.Laws.PanicsMore
namespace Go.Proofs.YtgofhpalceopiaaDoor
open Go.RowKit
set_option linter.unusedSimpArgs false
set_option linter.unusedVariables false
def propF (s : ByteArray) : Nat → Nat → Int × Int
  | 0, _ => (0, 900)
  | n + 1, k => if (nameS k).toList = s.toList then ((k : Int), 0) else propF s n (k + 1)
def propOf (s : ByteArray) : Int × Int := propF s 29 0
theorem propF_step {s : ByteArray} {k : Nat} (h : k < 29) : propF s (29 - k) k = if (nameS k).toList = s.toList then ((k : Int), 0) else propF s (29 - (k + 1)) (k + 1) := by
  obtain ⟨n, hn⟩ : ∃ n, 29 - k = n + 1 := ⟨28 - k, by omega⟩
  rw [hn, show 29 - (k + 1) = n from by omega]; rfl
def nameV : List Value := (List.range 29).map fun k => .string (nameS k)
theorem nameV_at (k : Nat) (h : k < 29) : nameV[k]? = some (.string (nameS k)) := by simp [nameV, h]
theorem nameV_range {w : World} (ht : TabN w) : w.rangeAt 0 0 nameV := fun j v hj => by
  have hl : j < 29 := by have := (List.getElem?_eq_some_iff.1 hj).1; simpa [nameV] using this
  rw [nameV_at j hl] at hj
  rw [Nat.zero_add, ht.nm j hl, hj]
theorem nameV_index (w : World) (k : Nat) (h : k < 29) : Sem.run Tryd.prog (Instr.index 45 (.agg nameV.toArray) (.int .i64 (k : Int))) w = .ok (.string (nameS k)) w := by
  have h1 := nameV_at k h
  have h2 : (0 : Int) ≤ (k : Int) ∧ (k : Int) < 29 := by omega
  simp [Instr.index, run_underlying Tryd.underlying45, asIntOf, h1, h2, h, go_sem]
set_option maxHeartbeats 2000000 in
theorem propParse_any (s : ByteArray) (w : World) (ht : TabN w) :
    Calls Tryd.prog 10 #[.string s] w fun e w' => e = .returned (.tuple #[.int .i64 (propOf s).1, .int .i64 (propOf s).2]) ∧ Kept w w' := by
  have hk : Kept w w := Kept.refl w
  have hr := nameV_range ht
  clear ht
  go_enter Tryd.func10, Tryd.ntmps10
  go_wp2_with (refine wpList_load_mid rfl 45 _ rfl 0 0 rfl nameV _ hr Tryd.underlying45 rfl (by kernel_rfl) ?_)
  obtain ⟨A, hA⟩ : ∃ A : Array Value, A = nameV.toArray := ⟨_, rfl⟩
  rw [← hA]
  have hI : ∀ k : Nat, k < 29 → Sem.run Tryd.prog (Instr.index 45 (.agg A) (.int .i64 (k : Int))) w = .ok (.string (nameS k)) w := fun k h => by rw [hA]; exact nameV_index w k h
  have HI := Lib.hid hI
  clear hA hI hr
  go_loop [4, 5, 7] (fun _ _ i => ∃ k : Nat, k ≤ 29 ∧ i = .int .i64 k ∧ propOf s = propF s (29 - k) k) (fun _ _ i => 29 - (intOf i).toNat)
  case atStart => exact ⟨0, Nat.zero_le _, rfl, rfl⟩
  case round =>
    obtain ⟨k, hk9, rfl, he⟩ := hrel
    have He := Lib.hid he
    clear he
    by_cases hlt : k < 29
    · have c0 := HI.out k hlt
      have hd := propF_step (s := s) hlt
      have Hd := Lib.hid hd
      clear hd
      obtain ⟨x, hx⟩ : ∃ x, nameS k = x := ⟨_, rfl⟩
      rw [hx] at c0
      cases hb : (x.toList == s.toList)
      · have hne : ¬ (nameS k).toList = s.toList := by rw [hx]; simpa using hb
        have Hne := Lib.hid hne
        clear hne hx
        go_wp2
        go_round
        case rel => exact ⟨k + 1, by omega, by go_num, by rw [He.out, Hd.out, if_neg Hne.out]⟩
        case measure => simp [intOf]; omega
      · have hne : (nameS k).toList = s.toList := by rw [hx]; simpa using hb
        have Hne := Lib.hid hne
        clear hne hx
        go_wp2
        go_ret2
        exact ⟨by rw [He.out, Hd.out, if_pos Hne.out]; rfl, hk⟩
    · obtain rfl : k = 29 := by omega
      go_wp2
      go_ret2
      exact ⟨by rw [He.out]; rfl, hk⟩
end Go.Proofs.YtgofhpalceopiaaDoor
