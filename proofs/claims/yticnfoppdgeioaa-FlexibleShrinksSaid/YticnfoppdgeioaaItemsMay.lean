/- Layer 19: items that may be, by the program and by the document. -/
import Derived.Test.YticnfoppdgeioaaColS
namespace Go.Proofs.Yticnfoppdgeioaa
open Go.RowKit
set_option linter.unusedSimpArgs false
set_option linter.unusedVariables false
def mayI (n : Nat) (I : Nat → Item) : Bool := decide (n ≤ 32) && allI I n
theorem mayI_true {n : Nat} {I : Nat → Item} : mayI n I = true ↔ n ≤ 32 ∧ allI I n = true := by unfold mayI; rw [Bool.and_eq_true, decide_eq_true_eq]
theorem flexMay_any (v : Value) (n : Nat) (I : Nat → Item) (w : World) (h : ItV w v n I) (hn : n ≤ 4611686018427387904) :
    Calls Try.prog 20 #[v] w fun e w' => e = .returned (.bool (mayI n I)) ∧ Kept w w' := by
  obtain ⟨o, cap, rfl⟩ := h.shape
  by_cases h1 : n ≤ 32
  · have hs : mayI n I = allI I n := by unfold mayI; rw [decide_eq_true h1]; rfl
    have Hs := Lib.hid hs
    clear hs
    have hk : Kept w w := Kept.refl w
    go_enter Try.func20, Try.ntmps20
    go_wp2_with fail
    refine (containsItems_any _ n I _ (h.kept hk) hn).mono ?_
    rintro e w1 ⟨rfl, hn⟩
    replace hk := hk.trans hn
    clear hn
    go_wp2
    go_ret
    exact ⟨ret_bool (by simp [Hs.out]), hk⟩
  · have hs : mayI n I = false := by unfold mayI; rw [decide_eq_false h1]; rfl
    have Hs := Lib.hid hs
    clear hs
    have hk : Kept w w := Kept.refl w
    go_enter Try.func20, Try.ntmps20
    go_wp2
    go_ret
    exact ⟨ret_bool (by rw [Hs.out]), hk⟩
theorem upTo11_any (x m : Int) (w : World) :
    Calls Try.prog 33 #[.int .i64 x, .int .i64 m] w fun e w' => e = .returned (.bool (inB 0 m x)) ∧ w = w' := by
  have hs : inB 0 m x = decide (0 ≤ x ∧ x ≤ m) := rfl
  have Hs := Lib.hid hs
  clear hs
  by_cases h : 0 ≤ x
  · skip
    go_enter Try.func33, Try.ntmps33
    go_wp2
    go_ret
    exact ⟨ret_bool (by rw [Hs.out]; first | (simp [h]; done) | (simp [h]; omega)), rfl⟩
  · skip
    go_enter Try.func33, Try.ntmps33
    go_wp2
    go_ret
    exact ⟨ret_bool (by rw [Hs.out]; first | (simp [h]; done) | (simp [h]; omega)), rfl⟩
theorem room11_any (x : Int) (w : World) :
    Calls Try.prog 24 #[.int .i64 x] w fun e w' => e = .returned (.bool (inB 0 4194304 x)) ∧ w = w' := by
  go_enter Try.func24, Try.ntmps24
  go_wp2_with (go_at_call 33; refine (upTo11_any _ _ _).mono ?_; rintro e w1 ⟨rfl, rfl⟩)
  go_ret
  exact ⟨rfl, rfl⟩
theorem refItemsMay_none (o : Option Addr) (cap : Nat) (I : Nat → Item) (w : World) :
    Calls Try.prog 23 #[.slice o 0 cap] w fun e w' => e = .returned (.bool (mayI 0 I)) ∧ Kept w w' := by
  have Hs := Lib.hid (show mayI 0 I = true from rfl)
  go_enter Try.func23, Try.ntmps23
  go_wp2
  refine wp_loop_rounds 1 ?_
  rw [rounds_succ]
  go_wp2
  go_ret
  exact ⟨ret_bool (by rw [Hs.out]), Kept.refl _⟩
set_option maxHeartbeats 2000000 in
theorem refItemsMay_some (b off n cap : Nat) (I : Nat → Item) (w : World) (hw : ItemsAt w b off n I) (hn : n ≤ 4611686018427387904) :
    Calls Try.prog 23 #[.slice (some ⟨b, off, none⟩) n cap] w fun e w' => e = .returned (.bool (mayI n I)) ∧ Kept w w' := by
  go_enter Try.func23, Try.ntmps23
  go_wp2
  go_loopw [3, 4] (fun i _ wx => ∃ k : Nat, k ≤ n ∧ i = .int .i64 k ∧ Kept w wx ∧ allI I k = true) (fun i _ _ => n - (intOf i).toNat)
  case atStart => exact ⟨0, Nat.zero_le _, rfl, Kept.refl _, rfl⟩
  case round =>
    obtain ⟨k, hk4, rfl, hk, hal⟩ := hrel
    have hal' := Lib.hid hal
    clear hal
    by_cases hlt : k < n
    · have hi1 : (k : Int) < (n : Int) := by omega
      have c0 := (hw.kept hk).base k hlt
      have c1 := (hw.kept hk).min k hlt
      have c2 := (hw.kept hk).max k hlt
      have c3 := (hw.kept hk).grow k hlt
      have c4 := (hw.kept hk).shrink k hlt
      have c5 := (hw.kept hk).extra k hlt
      have HNO := Lib.hid (fun (hb : itemB (I k) = false) => (show mayI n I = false by unfold mayI; rw [allI_no hlt hb, Bool.and_false]))
      have HYES := Lib.hid (fun (hb : itemB (I k) = true) => (show allI I (k + 1) = true by unfold allI; rw [hal'.out, hb]; rfl))
      obtain ⟨x, hx⟩ : ∃ x, I k = x := ⟨_, rfl⟩
      rw [hx] at c0 c1 c2 c3 c4 c5 HNO HYES
      clear hx
      go_wp2_with fail
      refine with_boxes1 ?_
      intro X hX b
      have hsz := hk.size
      replace hk := hk.trans hX
      clear hX
      replace b_l := b.lt
      replace b_0 := b.at 0 _ rfl
      replace b_1 := b.at 1 _ rfl
      replace b_2 := b.at 2 _ rfl
      replace b_3 := b.at 3 _ rfl
      replace b_4 := b.at 4 _ rfl
      replace b_5 := b.at 5 _ rfl
      refine (room11_any _ _).mono ?_
      rintro e w1 ⟨rfl, rfl⟩
      rcases false_first (inB 0 4194304 x.base) with h0 | h0
      · have Hs := Lib.hid (HNO.out (by unfold itemB; simp only [h0]; simp))
        clear HNO HYES
        go_wp2
        go_ret
        exact ⟨ret_bool (by rw [Hs.out]), hk⟩
      go_wp2_with fail
      refine (room11_any _ _).mono ?_
      rintro e w1 ⟨rfl, rfl⟩
      rcases false_first (inB 0 4194304 x.min) with h1 | h1
      · have Hs := Lib.hid (HNO.out (by unfold itemB; simp only [h0, h1]; simp))
        clear HNO HYES
        go_wp2
        go_ret
        exact ⟨ret_bool (by rw [Hs.out]), hk⟩
      go_wp2_with fail
      refine (upTo11_any _ _ _).mono ?_
      rintro e w1 ⟨rfl, rfl⟩
      rcases false_first (inB 0 1073741824 x.max) with h2 | h2
      · have Hs := Lib.hid (HNO.out (by unfold itemB; simp only [h0, h1, h2]; simp))
        clear HNO HYES
        go_wp2
        go_ret
        exact ⟨ret_bool (by rw [Hs.out]), hk⟩
      go_wp2_with fail
      refine (upTo11_any _ _ _).mono ?_
      rintro e w1 ⟨rfl, rfl⟩
      rcases false_first (inB 0 100 x.grow) with h3 | h3
      · have Hs := Lib.hid (HNO.out (by unfold itemB; simp only [h0, h1, h2, h3]; simp))
        clear HNO HYES
        go_wp2
        go_ret
        exact ⟨ret_bool (by rw [Hs.out]), hk⟩
      go_wp2_with fail
      refine (upTo11_any _ _ _).mono ?_
      rintro e w1 ⟨rfl, rfl⟩
      rcases false_first (inB 0 100 x.shrink) with h4 | h4
      · have Hs := Lib.hid (HNO.out (by unfold itemB; simp only [h0, h1, h2, h3, h4]; simp))
        clear HNO HYES
        go_wp2
        go_ret
        exact ⟨ret_bool (by rw [Hs.out]), hk⟩
      by_cases h5 : x.extra < -4194304
      · have Hs := Lib.hid (HNO.out (by unfold itemB; rw [show inB (-4194304) 4194304 x.extra = false from inB_false.2 (.inl h5)]; simp))
        clear HNO HYES
        go_wp2
        go_ret
        exact ⟨ret_bool (by rw [Hs.out]), hk⟩
      by_cases h6 : 4194304 < x.extra
      · have Hs := Lib.hid (HNO.out (by unfold itemB; rw [show inB (-4194304) 4194304 x.extra = false from inB_false.2 (.inr h6)]; simp))
        clear HNO HYES
        have h5' : -4194304 ≤ x.extra := by omega
        go_wp2
        go_ret
        exact ⟨ret_bool (by rw [Hs.out]), hk⟩
      have Hs := Lib.hid (HYES.out (by unfold itemB; simp only [h0, h1, h2, h3, h4, show inB (-4194304) 4194304 x.extra = true from inB_true.2 (by omega)]; rfl))
      clear HNO HYES
      have h5' : -4194304 ≤ x.extra := by omega
      have h6' : x.extra ≤ 4194304 := by omega
      go_wp2
      go_roundw
      case rel => exact ⟨k + 1, by omega, by go_num, hk, Hs.out⟩
      case measure => simp [intOf]; omega
    · obtain rfl : k = n := by omega
      have hs : mayI k I = decide (k ≤ 32) := by unfold mayI; rw [hal'.out, Bool.and_true]
      have Hs := Lib.hid hs
      clear hs
      by_cases h32 : k ≤ 32
      · go_wp2
        go_ret
        exact ⟨ret_bool (by rw [Hs.out]; simp; try omega), hk⟩
      · go_wp2
        go_ret
        exact ⟨ret_bool (by rw [Hs.out]; simp; try omega), hk⟩
theorem refItemsMay_any (v : Value) (n : Nat) (I : Nat → Item) (w : World) (h : ItV w v n I) (hn : n ≤ 4611686018427387904) :
    Calls Try.prog 23 #[v] w fun e w' => e = .returned (.bool (mayI n I)) ∧ Kept w w' := by
  rcases h with ⟨o, cap, rfl, rfl⟩ | ⟨b, off, cap, rfl, hi⟩
  · exact refItemsMay_none _ _ _ _
  · exact refItemsMay_some _ _ _ _ _ _ hi hn
end Go.Proofs.Yticnfoppdgeioaa
