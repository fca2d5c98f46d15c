/- within.Each tells whether each number of a list lies between two limits. -/
import Derived.Test.YtpblajjfgnhkdaaDoorBase
namespace Go.Proofs.YtpblajjfgnhkdaaDoor
open Go.RowKit
/-- all of a list's numbers are between two limits -/
def eachB (lo hi : Int) : List Int → Bool
  | [] => true
  | x :: r => if x < lo then false else if hi < x then false else eachB lo hi r
theorem eachB_iff {lo hi : Int} {zs : List Int} : eachB lo hi zs = true ↔ ∀ x ∈ zs, lo ≤ x ∧ x ≤ hi := by
  induction zs with
  | nil => simp [eachB]
  | cons x r ih =>
    unfold eachB
    by_cases h1 : x < lo
    · rw [if_pos h1]; simp; omega
    · by_cases h2 : hi < x
      · rw [if_neg h1, if_pos h2]; simp; omega
      · rw [if_neg h1, if_neg h2, ih]; simp; omega
theorem eachB_drop {lo hi : Int} {zs : List Int} {k : Nat} (h : k < zs.length) :
    eachB lo hi (zs.drop k) = if zs.getD k 0 < lo then false else if hi < zs.getD k 0 then false else eachB lo hi (zs.drop (k + 1)) := by
  rw [List.drop_eq_getElem_cons h, List.getD_eq_getElem?_getD, List.getElem?_eq_getElem h]; rfl
set_option maxHeartbeats 400000 in
theorem each_any (lo hi : Int) (b off len cap : Nat) (zs : List Int) (w : World) (hz : zs.length = len) (hm : len ≤ 9223372036854775807) (hc : Ints w b off zs) :
    Calls Tryd.prog 29 #[.int .i64 lo, .int .i64 hi, .slice (some ⟨b, off, none⟩) len cap] w fun e w' => e = .returned (.bool (eachB lo hi zs)) ∧ w = w' := by
  go_enter Tryd.func29, Tryd.ntmps29
  go_wp2
  go_loop [8, 11] (fun _ i => ∃ k : Nat, k ≤ len ∧ i = .int .i64 k ∧ eachB lo hi zs = eachB lo hi (zs.drop k)) (fun _ i => len - (intOf i).toNat)
  case atStart => exact ⟨0, Nat.zero_le _, rfl, by simp⟩
  case round =>
    obtain ⟨k, hk, rfl, he⟩ := hrel
    have He := Lib.hid he
    clear he
    by_cases hlt : k < len
    · have hcell := hc k (by omega)
      have hd := eachB_drop (lo := lo) (hi := hi) (zs := zs) (k := k) (by omega)
      generalize zs.getD k 0 = x at *
      have Hd := Lib.hid hd
      clear hd
      clear hc
      go_wp2
      · have h1 : lo ≤ x := by assumption
        have h2 : x < lo ∨ hi < x := by assumption
        go_ret
        exact ⟨ret_bool (by rw [He.out, Hd.out, if_neg (by omega), if_pos (by omega)]), rfl⟩
      · have h1 : lo ≤ x ∧ x ≤ hi := by assumption
        refine ⟨⟨k + 1, by omega, by go_num, ?_⟩, by simp [intOf]; omega⟩
        rw [He.out, Hd.out, if_neg (by omega), if_neg (by omega)]
      · have h1 : x < lo := by assumption
        go_ret
        exact ⟨ret_bool (by rw [He.out, Hd.out, if_pos h1]), rfl⟩
    · go_wp2
      go_ret
      exact ⟨ret_bool (by rw [He.out, List.drop_eq_nil_of_le (by omega)]; rfl), rfl⟩
/-- no number at all: whatever the slice -/
theorem each_none (lo hi : Int) (w : World) :
    Calls Tryd.prog 29 #[.int .i64 lo, .int .i64 hi, .slice none 0 0] w fun e w' => e = .returned (.bool true) ∧ w = w' := by
  go_enter Tryd.func29, Tryd.ntmps29
  go_wp2
  refine wp_loop_rounds 1 ?_
  rw [rounds_succ]
  go_wp2
  go_ret
  exact ⟨rfl, rfl⟩
/-- x lies between two limits -/
def inB (lo hi x : Int) : Bool := decide (lo ≤ x ∧ x ≤ hi)
theorem inB_true {lo hi x : Int} : inB lo hi x = true ↔ lo ≤ x ∧ x ≤ hi := by unfold inB; simp
theorem inB_false {lo hi x : Int} : inB lo hi x = false ↔ x < lo ∨ hi < x := by unfold inB; simp; omega
theorem each_one (lo hi x : Int) : eachB lo hi [x] = inB lo hi x := by
  rw [Bool.eq_iff_iff, eachB_iff, inB_true]; simp
theorem each_two (lo hi x y : Int) : eachB lo hi [x, y] = (inB lo hi x && inB lo hi y) := by
  rw [Bool.eq_iff_iff, eachB_iff, Bool.and_eq_true, inB_true, inB_true]; simp
theorem each_three (lo hi x y z : Int) : eachB lo hi [x, y, z] = (inB lo hi x && inB lo hi y && inB lo hi z) := by
  rw [Bool.eq_iff_iff, eachB_iff, Bool.and_eq_true, Bool.and_eq_true, inB_true, inB_true, inB_true]; simp; exact ⟨fun ⟨a, b, c⟩ => ⟨⟨a, b⟩, c⟩, fun ⟨⟨a, b⟩, c⟩ => ⟨a, b, c⟩⟩
section
variable (lo hi x y z : Int) (b : Nat) (w : World)
theorem each1_any (hx : w.cell? ⟨b, 0, none⟩ = some (.int .i64 x)) :
    Calls Tryd.prog 29 #[.int .i64 lo, .int .i64 hi, .slice (some ⟨b, 0, none⟩) 1 1] w fun e w' => e = .returned (.bool (inB lo hi x)) ∧ w = w' := by
  rw [← each_one]
  exact each_any lo hi b 0 1 1 [x] w rfl (by decide) (fun j hj => by
    match j, hj with
    | 0, _ => exact hx)
theorem each2_any (hx : w.cell? ⟨b, 0, none⟩ = some (.int .i64 x)) (hy : w.cell? ⟨b, 1, none⟩ = some (.int .i64 y)) :
    Calls Tryd.prog 29 #[.int .i64 lo, .int .i64 hi, .slice (some ⟨b, 0, none⟩) 2 2] w fun e w' => e = .returned (.bool (inB lo hi x && inB lo hi y)) ∧ w = w' := by
  rw [← each_two]
  exact each_any lo hi b 0 2 2 [x, y] w rfl (by decide) (fun j hj => by
    match j, hj with
    | 0, _ => exact hx
    | 1, _ => exact hy)
theorem each3_any (hx : w.cell? ⟨b, 0, none⟩ = some (.int .i64 x)) (hy : w.cell? ⟨b, 1, none⟩ = some (.int .i64 y)) (hz : w.cell? ⟨b, 2, none⟩ = some (.int .i64 z)) :
    Calls Tryd.prog 29 #[.int .i64 lo, .int .i64 hi, .slice (some ⟨b, 0, none⟩) 3 3] w fun e w' => e = .returned (.bool (inB lo hi x && inB lo hi y && inB lo hi z)) ∧ w = w' := by
  rw [← each_three]
  exact each_any lo hi b 0 3 3 [x, y, z] w rfl (by decide) (fun j hj => by
    match j, hj with
    | 0, _ => exact hx
    | 1, _ => exact hy
    | 2, _ => exact hz)
end
end Go.Proofs.YtpblajjfgnhkdaaDoor
