/- Layer 21: any numbers: every call; they stay. -/
import Derived.Test.YtkncagphlfpafaaCross4a
import Derived.Test.YtkncagphlfpafaaCross4b
import Derived.Test.YtkncagphlfpafaaCross4c
import Derived.Test.YtkncagphlfpafaaCross4d
import Derived.Test.YtkncagphlfpafaaCross4e
namespace Go.Proofs.Ytkncagphlfpafaa
open Go.RowKit
set_option linter.unusedSimpArgs false
set_option linter.unusedVariables false
set_option maxHeartbeats 1000000 in
theorem refMain_none (just room : Int) (o : Option Addr) (cap : Nat) (w : World) (h1 : inB 0 3 just = true) (h2 : inB 0 4194304 room = true) :
    Calls Try.prog 22 #[.int .i64 just, .int .i64 room, .slice o 0 cap] w fun e w' => e = .returned (.tuple #[.slice none 0 0, .int .i64 0]) ∧ Kept w w' := by
  have hj := inB_true.1 h1
  have hr := inB_true.1 h2
  rcases (by omega : just = 0 ∨ just = 1 ∨ just = 2 ∨ just = 3) with rfl | rfl | rfl | rfl <;> rcases (by omega : room = 0 ∨ 0 < room) with h5 | h5
  all_goals
    have hk : Kept w w := Kept.refl w
    go_enter Try.func22, Try.ntmps22
    go_wp2_with fail
    refine (refUp11_any _ _ _).mono ?_
    rintro e w1 ⟨rfl, rfl⟩
    go_wp2_with fail
    refine (refRoom11_any _ _).mono ?_
    rintro e w1 ⟨rfl, rfl⟩
    go_wp2
    refine wp_loop_rounds 1 ?_
    rw [rounds_succ]
    go_wp2
    refine wp_loop_rounds 1 ?_
    rw [rounds_succ]
    go_wp2
    go_ret2
    exact ⟨rfl, hk⟩
theorem refMain_wrong (just room : Int) (v : Value) (n : Nat) (Z : Nat → Int) (w : World) (hz : IV w v n Z) (h : mainB just room n Z = false) :
    Calls Try.prog 22 #[.int .i64 just, .int .i64 room, v] w fun e w' => e = .returned (.tuple #[.slice none 0 0, .int .i64 2100]) ∧ Kept w w' := by
  by_cases hq : inB 0 3 just = false ∨ inB 0 4194304 room = false ∨ 32 < n
  · obtain ⟨o, cap, rfl⟩ := hz.shape
    exact refMain_early just room o n cap w hq
  · have h1 : inB 0 3 just = true := by cases hx : inB 0 3 just with
      | true => rfl
      | false => exact absurd (.inl hx) hq
    have h2 : inB 0 4194304 room = true := by cases hx : inB 0 4194304 room with
      | true => rfl
      | false => exact absurd (.inr (.inl hx)) hq
    have h3 : n ≤ 32 := by
      rcases Nat.lt_or_ge 32 n with hx | hx
      · exact absurd (.inr (.inr hx)) hq
      · exact hx
    have h4 : allX Z n = false := by simpa [mainB, h1, h2, h3] using h
    rcases hz with ⟨rfl, o, cap, rfl⟩ | ⟨b, off, cap, rfl, hp, hcap, hz⟩
    · cases h4
    · exact refMain_odd just room b off n cap Z w hz h1 h2 h3 h4
theorem refMain_good (just room : Int) (v : Value) (n : Nat) (Z : Nat → Int) (w : World) (hz : IV w v n Z) (h : mainB just room n Z = true) :
    Calls Try.prog 22 #[.int .i64 just, .int .i64 room, v] w fun e w' => ∃ u, e = .returned (.tuple #[u, .int .i64 0]) ∧ NewOnes 3 w w' u n (placeS just room n Z) ∧ Kept w w' := by
  obtain ⟨⟨⟨h1, h2⟩, h3⟩, h4⟩ := mainB_true.1 h
  rcases hz with ⟨rfl, o, cap, rfl⟩ | ⟨b, off, cap, rfl, hp, hcap, hz⟩
  · exact (refMain_none just room o cap w h1 h2).mono fun e w' ⟨he, hk⟩ => ⟨_, he, .inl ⟨rfl, none, 0, rfl, by decide⟩, hk⟩
  · have hj := inB_true.1 h1
    rcases (by omega : just = 0 ∨ just = 1 ∨ just = 2 ∨ just = 3) with rfl | rfl | rfl | rfl
    · exact refMain_start room b off n cap Z w hz hp h2 h3 h4 trivial
    · exact refMain_end room b off n cap Z w hz hp h2 h3 h4 trivial
    · exact refMain_center room b off n cap Z w hz hp h2 h3 h4 trivial
    · by_cases hn : 1 < n
      · exact refMain_between room b off n cap Z w hz hp h2 h3 h4 hn
      · exact refMain_single room b off n cap Z w hz hp h2 h3 h4 (by omega)
theorem main_both (just room : Int) (n : Nat) (Z : Nat → Int) (hb : n ≤ 17592186043904) : ∃ (m : Nat) (Y : Nat → Int) (s : Int), m ≤ 17592186043904 ∧
    (∀ v w, IV w v n Z → Calls Try.prog 21 #[.int .i64 just, .int .i64 room, v] w fun e w' => ∃ u, e = .returned (.tuple #[u, .int .i64 s]) ∧ NewOnes 3 w w' u m Y ∧ Kept w w') ∧
    (∀ v w, IV w v n Z → Calls Try.prog 22 #[.int .i64 just, .int .i64 room, v] w fun e w' => ∃ u, e = .returned (.tuple #[u, .int .i64 s]) ∧ NewOnes 3 w w' u m Y ∧ Kept w w') := by
  cases h : mainB just room n Z with
  | true => exact ⟨n, placeS just room n Z, 0, hb, fun v w hz => crossMain_good just room v n Z w hz h, fun v w hz => refMain_good just room v n Z w hz h⟩
  | false =>
    exact ⟨0, fun _ => 0, 2100, by decide,
      fun v w hz => (crossMain_wrong just room v n Z w hz hb h).mono fun e w' ⟨he, hk⟩ => ⟨_, he, .inl ⟨rfl, none, 0, rfl, by decide⟩, hk⟩,
      fun v w hz => (refMain_wrong just room v n Z w hz h).mono fun e w' ⟨he, hk⟩ => ⟨_, he, .inl ⟨rfl, none, 0, rfl, by decide⟩, hk⟩⟩
/-- numbers from k on -/
def Rest (cur : Array Value) (k m : Nat) : Prop := ∀ i, k ≤ i → i < m → ∃ x : Int, cur[i]? = some (.int .i64 x)
theorem Rest.set {cur : Array Value} {k m : Nat} (h : Rest cur k m) (v : Value) : Rest (cur.setIfInBounds k v) (k + 1) m := by
  intro i hi hm
  obtain ⟨x, hx⟩ := h i (by omega) hm
  exact ⟨x, by rw [Array.getElem?_setIfInBounds_ne (by omega)]; exact hx⟩
theorem spoilInts_none (o : Option Addr) (cap : Nat) (w : World) :
    Calls Try.prog 26 #[.slice o 0 cap] w fun e w' => e = .returned (.tuple #[]) ∧ Kept w w' := by
  go_enter Try.func26, Try.ntmps26
  go_wp2
  refine wp_loop_rounds 1 ?_
  rw [rounds_succ]
  go_wp2
  go_end0
  exact ⟨rfl, Kept.refl _⟩
set_option maxHeartbeats 1000000 in
theorem spoilInts_some (a : World) (g m cap : Nat) (cur0 : Array Value) (w : World) (ha : Kept a w) (hg : a.heap.size ≤ g) (hm : m ≤ 17592186043904) (h1 : Own w g 3 cur0) (h2 : Rest cur0 0 m) :
    Calls Try.prog 26 #[.slice (some ⟨g, 0, none⟩) m cap] w fun e w' => e = .returned (.tuple #[]) ∧ Kept a w' := by
  go_enter Try.func26, Try.ntmps26
  go_wp2
  go_loopw [2] (fun n wx => ∃ (k : Nat) (cur : Array Value), k ≤ m ∧ n = .int .i64 k ∧ Kept a wx ∧ Own wx g 3 cur ∧ Rest cur k m) (fun n _ => m - (intOf n).toNat)
  case atStart => exact ⟨0, cur0, Nat.zero_le _, rfl, ha, h1, h2⟩
  case round =>
    clear ha h1 h2
    obtain ⟨k, cur, hkm, rfl, hk, ho, hmid⟩ := hrel
    by_cases hlt : k < m
    · obtain ⟨x, hx⟩ := hmid k (Nat.le_refl _) hlt
      have c1 : wr.cell? ⟨g, k, none⟩ = some (.int .i64 x) := (ho.cell _).trans hx
      have f1 := ho.free k
      have H := Lib.hid (And.intro ho hmid)
      clear ho hmid hx
      go_wp2
      go_roundw
      case rel => exact ⟨k + 1, _, by omega, by go_num, hk.set hg _, H.out.1.set k _, H.out.2.set _⟩
      case measure => simp [intOf]; omega
    · go_wp2
      go_end0
      exact ⟨rfl, hk⟩
theorem spoilInts_any {a w : World} {v : Value} {m : Nat} {Y : Nat → Int} (ha : Kept a w) (hm : m ≤ 17592186043904) (hv : NewOnes 3 a w v m Y) :
    Calls Try.prog 26 #[v] w fun e w' => e = .returned (.tuple #[]) ∧ Kept a w' := by
  rcases hv with ⟨rfl, o, cap, rfl, _⟩ | ⟨b, cap, cur, rfl, h2, h3, h4, h5, h6, h7, h8⟩
  · exact (spoilInts_none o cap w).mono fun e w' h => ⟨h.1, ha.trans h.2⟩
  · exact spoilInts_some a b m cap cur w ha h5 hm h6 fun i _ hi => ⟨Y i, h8 i hi⟩
theorem Kept.kept {a b c : World} (h : Kept a b) (k : Kept b c) : Kept a c := h.trans k
set_option maxHeartbeats 2000000 in
theorem crosses_walk (just room : Int) (v : Value) (n : Nat) (Z : Nat → Int) (item line size : Int) (w : World) (hv : IV w v n Z) (hb : n ≤ 17592186043904) :
    Calls Try.prog 8 #[.int .i64 just, .int .i64 room, v, .int .i64 item, .int .i64 line, .int .i64 size] w fun e w' => e = .returned (.bool true) ∧ Kept w w' := by
  obtain ⟨sl, cap, rfl⟩ := hv.shape
  obtain ⟨m, Y, z, hm, H3, H4⟩ := main_both just room n Z hb
  replace H3 := Lib.hid H3
  replace H4 := Lib.hid H4
  have hk : Kept w w := Kept.refl w
  go_enter Try.func8, Try.ntmps8
  go_wp2_with fail
  refine (lendInts_any sl n cap Z _ (hv.kept hk) hb).mono ?_
  rintro e w1 ⟨x, rfl, lx, hn⟩
  replace hk := hk.trans hn
  clear hn
  go_wp2_with fail
  obtain ⟨wq, rfl⟩ : ∃ wq : World, wq = w1 := ⟨_, rfl⟩
  have hkq : Kept wq wq := Kept.refl wq
  have lx0 := lx
  have hk0 := hk
  go_wp2_with fail
  refine (H3.out _ _ lx.iv).mono ?_
  rintro e w1 ⟨u, rfl, hu, hn⟩
  replace hk := hk.trans hn
  replace lx := lx.kept hn
  replace hkq := hkq.kept hn
  clear hn
  go_wp2_with fail
  refine (H4.out _ _ (hv.kept hk)).mono ?_
  rintro e w1 ⟨u2, rfl, hu2, hn⟩
  replace hk := hk.trans hn
  replace lx := lx.kept hn
  replace hkq := hkq.kept hn
  replace hu := hu.kept hn
  clear hn
  go_wp2_with fail
  refine (crossCross_any _ _ _ _).mono ?_
  rintro e w1 ⟨rfl, hn⟩
  replace hk := hk.trans hn
  replace lx := lx.kept hn
  replace hkq := hkq.kept hn
  replace hu := hu.kept hn
  replace hu2 := hu2.kept hn
  clear hn
  go_wp2_with fail
  refine (refCross_any _ _ _ _).mono ?_
  rintro e w1 ⟨rfl, hn⟩
  replace hk := hk.trans hn
  replace lx := lx.kept hn
  replace hkq := hkq.kept hn
  replace hu := hu.kept hn
  replace hu2 := hu2.kept hn
  clear hn
  generalize crossS item line size = C at *
  go_wp2_with fail
  refine (sameIV_yes hu.iv hu2.iv hm).mono ?_
  rintro e w1 ⟨rfl, hn⟩
  replace hk := hk.trans hn
  replace lx := lx.kept hn
  replace hkq := hkq.kept hn
  replace hu := hu.kept hn
  replace hu2 := hu2.kept hn
  clear hn
  go_wp2_with fail
  refine (num_any _ _).mono ?_
  rintro e w1 ⟨rfl, rfl⟩
  go_wp2_with fail
  refine (num_any _ _).mono ?_
  rintro e w1 ⟨rfl, rfl⟩
  go_wp2_with fail
  refine (spoilInts_any hkq hm hu).mono ?_
  rintro e w9 ⟨rfl, hn⟩
  replace hk := hk0.trans hn
  replace lx := lx0.kept hn
  clear lx0 hk0 hu hu2 hkq
  go_wp2_with fail
  refine (keptInts_yes lx (hv.kept hk) hb).mono ?_
  rintro e w10 ⟨rfl, hn⟩
  replace hk := hk.trans hn
  go_wp2_with fail
  refine (awake21_any _).mono ?_
  rintro e w11 ⟨rfl, hn⟩
  replace hk := hk.trans hn
  go_wp2
  go_ret
  exact ⟨rfl, hk⟩
end Go.Proofs.Ytkncagphlfpafaa
