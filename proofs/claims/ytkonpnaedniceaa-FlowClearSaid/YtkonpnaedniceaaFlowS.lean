/- Layer 18: lines of words beside floats. -/
import Derived.Test.YtkonpnaedniceaaPlace
import Derived.Test.YtkonpnaedniceaaBreak
import Derived.Test.YtkonpnaedniceaaAlign
import Derived.Test.YtkonpnaedniceaaRowRects
namespace Go.Proofs.Ytkonpnaedniceaa
open Go.RowKit Go.Deep
set_option linter.unusedSimpArgs false
set_option linter.unusedVariables false
theorem settle_le {E : Nat → Exc} {room : Int} {n : Nat} {si sb y B : Int} (ha : allE E n = true) (hB : 8388608 ≤ B) (hy : 0 ≤ y ∧ y ≤ B) : (0 ≤ settleS E room n si sb y ∧ settleS E room n si sb y ≤ B) ∧ fitsB E room n si sb (settleS E room n si sb y) = true ∧ y ≤ settleS E room n si sb y := by
  refine settle_ind (fun y => 0 ≤ y ∧ y ≤ B) (fun y hy _ h2 ⟨k, hk, h3⟩ => ?_) y hy
  have := excB_parts (allE_yes ha k hk)
  rw [h3]
  unfold endS
  omega
/-- what a flow is asked for -/
structure Flw where
  E : Nat → Exc
  n : Nat
  room : Int
  A : Nat → Int
  m : Nat
  how : Int
  y : Int
def Flw.set (F : Flw) (i : Nat) (y : Int) : Int := settleS F.E F.room F.n (F.A i) 640 y
def Flw.p (F : Flw) (y : Int) : Int := (bandS F.E F.room y 640 F.n).1
def Flw.q (F : Flw) (y : Int) : Int := max (bandS F.E F.room y 640 F.n).1 (bandS F.E F.room y 640 F.n).2
noncomputable def Flw.k (F : Flw) (i : Nat) (y : Int) : Nat := kS F.A F.m (F.q y - F.p y) i
/-- the word that line l begins with, and where the line may stand -/
noncomputable def Flw.at (F : Flw) : Nat → Nat × Int
  | 0 => (0, F.y)
  | l + 1 => ((F.at l).1 + F.k (F.at l).1 (F.set (F.at l).1 (F.at l).2) + 1, F.set (F.at l).1 (F.at l).2 + 640)
/-- where line l stands -/
noncomputable def Flw.L (F : Flw) (l : Nat) : Int := F.set (F.at l).1 (F.at l).2
theorem Flw.at_next (F : Flw) (l : Nat) : F.at (l + 1) = ((F.at l).1 + F.k (F.at l).1 (F.L l) + 1, F.L l + 640) := rfl
def sizeS (how long adv : Int) (many last : Bool) : Int := if (decide (how = 3) && many && !last) = true then max adv long else adv
noncomputable def Flw.adv (F : Flw) (l : Nat) : Int := wid F.A (F.at l).1 (F.k (F.at l).1 (F.L l))
noncomputable def Flw.ai (F : Flw) (l : Nat) : Int := F.p (F.L l) + (offS F.how (F.q (F.L l) - F.p (F.L l)) (F.adv l)).1
noncomputable def Flw.si (F : Flw) (l : Nat) : Int := sizeS F.how (F.q (F.L l) - F.p (F.L l)) (F.adv l) (decide (0 < F.k (F.at l).1 (F.L l))) (decide ((F.at (l + 1)).1 = F.m))
/-- the rectangles' cells -/
noncomputable def Flw.Z (F : Flw) (l : Nat) : Nat → Int
  | 0 => F.ai l
  | 1 => F.L l
  | 2 => F.si l
  | _ => 640
theorem Flw.less (F : Flw) (l : Nat) : (F.at l).1 < (F.at (l + 1)).1 := by rw [F.at_next]; dsimp only; omega
theorem Flw.mono (F : Flw) {a b : Nat} (h : a < b) : (F.at a).1 < (F.at b).1 := by
  induction b with
  | zero => omega
  | succ b ih =>
    have := F.less b
    rcases Nat.lt_or_ge a b with h1 | h1
    · have := ih h1; omega
    · obtain rfl : a = b := by omega
      exact this
theorem Flw.ge (F : Flw) (l : Nat) : l ≤ (F.at l).1 := by
  induction l with
  | zero => exact Nat.zero_le _
  | succ l ih => have := F.less l; omega
theorem Flw.one (F : Flw) {a b : Nat} (ha : (F.at a).1 = F.m) (hb : (F.at b).1 = F.m) : a = b := by
  rcases Nat.lt_trichotomy a b with h | h | h
  · have := F.mono h; omega
  · exact h
  · have := F.mono h; omega
theorem Flw.next_le (F : Flw) {l : Nat} (h : (F.at l).1 < F.m) : (F.at (l + 1)).1 ≤ F.m := by
  rw [F.at_next]
  have := (kS_is F.A (F.q (F.L l) - F.p (F.L l)) h).le
  dsimp only
  unfold Flw.k
  omega
/-- what a flow may be asked for -/
structure Flw.Good (F : Flw) : Prop where
  x : mayX F.room F.n F.E = true
  w : mayW F.m F.A = true
  how : 0 ≤ F.how ∧ F.how ≤ 3
  y : 0 ≤ F.y ∧ F.y ≤ 1048576000
theorem Flw.Good.band {F : Flw} (h : F.Good) (y : Int) : (0 ≤ F.p y ∧ F.p y ≤ F.q y) ∧ F.q y ≤ 1077936128 ∧ F.q y - F.p y ≤ 4194304 := by
  obtain ⟨hr, _, ha⟩ := mayX_true.1 h.x
  have := bandS_bd (y := y) (h := 640) ha hr F.n (Nat.le_refl _)
  unfold Flw.p Flw.q
  omega
theorem Flw.Good.at_bd {F : Flw} (h : F.Good) (l : Nat) : 0 ≤ (F.at l).2 ∧ (F.at l).2 ≤ 1048576000 + 640 * (l : Int) ∧ (0 ≤ F.L l ∧ F.L l ≤ 1048576000 + 640 * (l : Int)) ∧ (F.at l).2 ≤ F.L l ∧ fitsB F.E F.room F.n (F.A (F.at l).1) 640 (F.L l) = true := by
  obtain ⟨hr, _, ha⟩ := mayX_true.1 h.x
  have key : ∀ (l : Nat) (y : Int), 0 ≤ y ∧ y ≤ 1048576000 + 640 * (l : Int) → (0 ≤ F.set (F.at l).1 y ∧ F.set (F.at l).1 y ≤ 1048576000 + 640 * (l : Int)) ∧ fitsB F.E F.room F.n (F.A (F.at l).1) 640 (F.set (F.at l).1 y) = true ∧ y ≤ F.set (F.at l).1 y := fun l y hy => settle_le ha (by omega) hy
  induction l with
  | zero =>
    have h0 := h.y
    have := key 0 F.y (by omega)
    exact ⟨h0.1, by show F.y ≤ _; omega, this.1, this.2.2, this.2.1⟩
  | succ l ih =>
    have e : (F.at (l + 1)).2 = F.L l + 640 := rfl
    have hb : 0 ≤ (F.at (l + 1)).2 ∧ (F.at (l + 1)).2 ≤ 1048576000 + 640 * ((l + 1 : Nat) : Int) := by rw [e]; omega
    have := key (l + 1) _ hb
    exact ⟨hb.1, hb.2, this.1, this.2.2, this.2.1⟩
theorem Flw.Good.adv_bd {F : Flw} (h : F.Good) {l : Nat} (hl : (F.at l).1 < F.m) : 0 ≤ F.adv l ∧ F.adv l ≤ 1073741824 := by
  obtain ⟨h80, ha⟩ := mayW_true.1 h.w
  have hle := (kS_is F.A (F.q (F.L l) - F.p (F.L l)) hl).le
  have := wid_bounds ha (F.k (F.at l).1 (F.L l)) (f := (F.at l).1) (by unfold Flw.k; omega)
  unfold Flw.adv
  have h2 : F.k (F.at l).1 (F.L l) ≤ 79 := by unfold Flw.k; omega
  omega
theorem offS_bd {how room adv : Int} (hr : 0 ≤ room ∧ room ≤ 1073741824) (ha : 0 ≤ adv ∧ adv ≤ 1073741824) : 0 ≤ (offS how room adv).1 ∧ (offS how room adv).1 ≤ 1073741824 := by
  unfold offS leftS
  split
  · dsimp only
    split <;> split <;> (try split) <;> omega
  · exact ⟨Int.le_refl _, by decide⟩
set_option maxHeartbeats 2000000 in
theorem besideRect_any (f t : Nat) (adv how «from» long y : Int) (last : Bool) (w : World) (hft : f < t) (ht : t ≤ 1000) (ha : 0 ≤ adv ∧ adv ≤ 1073741824) (hl : 0 ≤ long ∧ long ≤ 1073741824) (hf : 0 ≤ «from» ∧ «from» ≤ 1077936128) :
    Calls Try.prog 32 #[lineV f t adv, .int .i64 how, .int .i64 «from», .int .i64 long, .int .i64 y, .bool last] w fun e w' => e = .returned (.agg #[.int .i64 («from» + (offS how long adv).1), .int .i64 y, .int .i64 (sizeS how long adv (decide (f + 1 < t)) last), .int .i64 640]) ∧ Kept w w' := by
  have ho := offS_bd (how := how) hl ha
  have HO := Lib.hid (fun wx => alignOffset_any how long adv wx)
  generalize offS how long adv = o at *
  obtain ⟨o1, o2⟩ := o
  dsimp only at ho HO ⊢
  have hw1 : IntKind.i64.wrap («from» + o1) = «from» + o1 := IntWalk.i64_in _ (by omega)
  by_cases hplain : (decide (how = 3) && decide (f + 1 < t) && !last) = true
  · have hs : sizeS how long adv (decide (f + 1 < t)) last = max adv long := if_pos hplain
    simp only [Bool.and_eq_true, decide_eq_true_eq, Bool.not_eq_true'] at hplain
    obtain ⟨⟨rfl, hm⟩, rfl⟩ := hplain
    have hm1 : (1 : Int) < (t : Int) - (f : Int) := by omega
    rw [hs]
    clear hs
    rcases Int.lt_trichotomy adv long with hd | hd | hd
    · rw [show max adv long = long by omega]
      have hk : Kept w w := Kept.refl w
      go_enter Try.func32, Try.ntmps32
      go_wp2_with fail
      refine with_boxes2 ?_
      intro X hX l r
      have hsz := hk.size
      replace hk := hk.trans hX
      clear hX
      replace l_l := l.lt
      replace l_0 := l.at 0 _ rfl
      replace l_1 := l.at 1 _ rfl
      replace l_2 := l.at 2 _ rfl
      replace r_l := r.lt
      replace r_0 := r.at 0 _ rfl
      replace r_1 := r.at 1 _ rfl
      replace r_2 := r.at 2 _ rfl
      replace r_3 := r.at 3 _ rfl
      refine (HO.out _).mono ?_
      rintro e w1 ⟨rfl, hn⟩
      replace hk := hk.trans hn
      replace l := l.kept hn
      replace r := r.kept hn
      clear hn
      replace l_l := l.lt
      replace l_0 := l.at 0 _ rfl
      replace l_1 := l.at 1 _ rfl
      replace l_2 := l.at 2 _ rfl
      replace r_l := r.lt
      replace r_0 := r.at 0 _ rfl
      replace r_1 := r.at 1 _ rfl
      replace r_2 := r.at 2 _ rfl
      replace r_3 := r.at 3 _ rfl
      go_wp2_with (refine here_store 41 _ _ rfl ?_; refine wpList_store_own rfl 41 _ _ rfl _ _ rfl rfl (r.alloc _) (by rfl) (by kernel_rfl) (by rfl) ?_; intro X2 oX hoX hkX; replace hk := hkX _ (hk.alloc _) (by omega); clear hoX hkX)
      exact bodyPost_ret (results_own 41 _ Try.results32 rfl oX Try.underlying41 rfl (by kernel_rfl)) rfl ⟨rfl, hk⟩
    · subst hd
      rw [show max adv adv = adv by omega]
      have hk : Kept w w := Kept.refl w
      go_enter Try.func32, Try.ntmps32
      go_wp2_with fail
      refine with_boxes2 ?_
      intro X hX l r
      have hsz := hk.size
      replace hk := hk.trans hX
      clear hX
      replace l_l := l.lt
      replace l_0 := l.at 0 _ rfl
      replace l_1 := l.at 1 _ rfl
      replace l_2 := l.at 2 _ rfl
      replace r_l := r.lt
      replace r_0 := r.at 0 _ rfl
      replace r_1 := r.at 1 _ rfl
      replace r_2 := r.at 2 _ rfl
      replace r_3 := r.at 3 _ rfl
      refine (HO.out _).mono ?_
      rintro e w1 ⟨rfl, hn⟩
      replace hk := hk.trans hn
      replace l := l.kept hn
      replace r := r.kept hn
      clear hn
      replace l_l := l.lt
      replace l_0 := l.at 0 _ rfl
      replace l_1 := l.at 1 _ rfl
      replace l_2 := l.at 2 _ rfl
      replace r_l := r.lt
      replace r_0 := r.at 0 _ rfl
      replace r_1 := r.at 1 _ rfl
      replace r_2 := r.at 2 _ rfl
      replace r_3 := r.at 3 _ rfl
      go_wp2_with (refine here_store 41 _ _ rfl ?_; refine wpList_store_own rfl 41 _ _ rfl _ _ rfl rfl (r.alloc _) (by rfl) (by kernel_rfl) (by rfl) ?_; intro X2 oX hoX hkX; replace hk := hkX _ (hk.alloc _) (by omega); clear hoX hkX)
      exact bodyPost_ret (results_own 41 _ Try.results32 rfl oX Try.underlying41 rfl (by kernel_rfl)) rfl ⟨rfl, hk⟩
    · rw [show max adv long = adv by omega]
      have hk : Kept w w := Kept.refl w
      go_enter Try.func32, Try.ntmps32
      go_wp2_with fail
      refine with_boxes2 ?_
      intro X hX l r
      have hsz := hk.size
      replace hk := hk.trans hX
      clear hX
      replace l_l := l.lt
      replace l_0 := l.at 0 _ rfl
      replace l_1 := l.at 1 _ rfl
      replace l_2 := l.at 2 _ rfl
      replace r_l := r.lt
      replace r_0 := r.at 0 _ rfl
      replace r_1 := r.at 1 _ rfl
      replace r_2 := r.at 2 _ rfl
      replace r_3 := r.at 3 _ rfl
      refine (HO.out _).mono ?_
      rintro e w1 ⟨rfl, hn⟩
      replace hk := hk.trans hn
      replace l := l.kept hn
      replace r := r.kept hn
      clear hn
      replace l_l := l.lt
      replace l_0 := l.at 0 _ rfl
      replace l_1 := l.at 1 _ rfl
      replace l_2 := l.at 2 _ rfl
      replace r_l := r.lt
      replace r_0 := r.at 0 _ rfl
      replace r_1 := r.at 1 _ rfl
      replace r_2 := r.at 2 _ rfl
      replace r_3 := r.at 3 _ rfl
      go_wp2_with (refine here_store 41 _ _ rfl ?_; refine wpList_store_own rfl 41 _ _ rfl _ _ rfl rfl (r.alloc _) (by rfl) (by kernel_rfl) (by rfl) ?_; intro X2 oX hoX hkX; replace hk := hkX _ (hk.alloc _) (by omega); clear hoX hkX)
      exact bodyPost_ret (results_own 41 _ Try.results32 rfl oX Try.underlying41 rfl (by kernel_rfl)) rfl ⟨rfl, hk⟩
  · have hs : sizeS how long adv (decide (f + 1 < t)) last = adv := if_neg hplain
    rw [hs]
    clear hs
    rcases (by omega : how ≠ 3 ∨ how = 3) with h3 | rfl
    · clear hplain
      have h3' : (how == 3) = false := by simpa using h3
      clear h3
      have hk : Kept w w := Kept.refl w
      go_enter Try.func32, Try.ntmps32
      go_wp2_with fail
      refine with_boxes2 ?_
      intro X hX l r
      have hsz := hk.size
      replace hk := hk.trans hX
      clear hX
      replace l_l := l.lt
      replace l_0 := l.at 0 _ rfl
      replace l_1 := l.at 1 _ rfl
      replace l_2 := l.at 2 _ rfl
      replace r_l := r.lt
      replace r_0 := r.at 0 _ rfl
      replace r_1 := r.at 1 _ rfl
      replace r_2 := r.at 2 _ rfl
      replace r_3 := r.at 3 _ rfl
      refine (HO.out _).mono ?_
      rintro e w1 ⟨rfl, hn⟩
      replace hk := hk.trans hn
      replace l := l.kept hn
      replace r := r.kept hn
      clear hn
      replace l_l := l.lt
      replace l_0 := l.at 0 _ rfl
      replace l_1 := l.at 1 _ rfl
      replace l_2 := l.at 2 _ rfl
      replace r_l := r.lt
      replace r_0 := r.at 0 _ rfl
      replace r_1 := r.at 1 _ rfl
      replace r_2 := r.at 2 _ rfl
      replace r_3 := r.at 3 _ rfl
      go_wp2_with (refine here_store 41 _ _ rfl ?_; refine wpList_store_own rfl 41 _ _ rfl _ _ rfl rfl (r.alloc _) (by rfl) (by kernel_rfl) (by rfl) ?_; intro X2 oX hoX hkX; replace hk := hkX _ (hk.alloc _) (by omega); clear hoX hkX)
      exact bodyPost_ret (results_own 41 _ Try.results32 rfl oX Try.underlying41 rfl (by kernel_rfl)) rfl ⟨rfl, hk⟩
    · rcases (by omega : (t : Int) - (f : Int) ≤ 1 ∨ (1 : Int) < (t : Int) - (f : Int)) with hm | hm
      · clear hplain
        have hk : Kept w w := Kept.refl w
        go_enter Try.func32, Try.ntmps32
        go_wp2_with fail
        refine with_boxes2 ?_
        intro X hX l r
        have hsz := hk.size
        replace hk := hk.trans hX
        clear hX
        replace l_l := l.lt
        replace l_0 := l.at 0 _ rfl
        replace l_1 := l.at 1 _ rfl
        replace l_2 := l.at 2 _ rfl
        replace r_l := r.lt
        replace r_0 := r.at 0 _ rfl
        replace r_1 := r.at 1 _ rfl
        replace r_2 := r.at 2 _ rfl
        replace r_3 := r.at 3 _ rfl
        refine (HO.out _).mono ?_
        rintro e w1 ⟨rfl, hn⟩
        replace hk := hk.trans hn
        replace l := l.kept hn
        replace r := r.kept hn
        clear hn
        replace l_l := l.lt
        replace l_0 := l.at 0 _ rfl
        replace l_1 := l.at 1 _ rfl
        replace l_2 := l.at 2 _ rfl
        replace r_l := r.lt
        replace r_0 := r.at 0 _ rfl
        replace r_1 := r.at 1 _ rfl
        replace r_2 := r.at 2 _ rfl
        replace r_3 := r.at 3 _ rfl
        go_wp2_with (refine here_store 41 _ _ rfl ?_; refine wpList_store_own rfl 41 _ _ rfl _ _ rfl rfl (r.alloc _) (by rfl) (by kernel_rfl) (by rfl) ?_; intro X2 oX hoX hkX; replace hk := hkX _ (hk.alloc _) (by omega); clear hoX hkX)
        exact bodyPost_ret (results_own 41 _ Try.results32 rfl oX Try.underlying41 rfl (by kernel_rfl)) rfl ⟨rfl, hk⟩
      · have hl2 : last = true := by
          rw [show decide (f + 1 < t) = true from decide_eq_true (by omega)] at hplain
          simpa using hplain
        subst hl2
        clear hplain
        have hk : Kept w w := Kept.refl w
        go_enter Try.func32, Try.ntmps32
        go_wp2_with fail
        refine with_boxes2 ?_
        intro X hX l r
        have hsz := hk.size
        replace hk := hk.trans hX
        clear hX
        replace l_l := l.lt
        replace l_0 := l.at 0 _ rfl
        replace l_1 := l.at 1 _ rfl
        replace l_2 := l.at 2 _ rfl
        replace r_l := r.lt
        replace r_0 := r.at 0 _ rfl
        replace r_1 := r.at 1 _ rfl
        replace r_2 := r.at 2 _ rfl
        replace r_3 := r.at 3 _ rfl
        refine (HO.out _).mono ?_
        rintro e w1 ⟨rfl, hn⟩
        replace hk := hk.trans hn
        replace l := l.kept hn
        replace r := r.kept hn
        clear hn
        replace l_l := l.lt
        replace l_0 := l.at 0 _ rfl
        replace l_1 := l.at 1 _ rfl
        replace l_2 := l.at 2 _ rfl
        replace r_l := r.lt
        replace r_0 := r.at 0 _ rfl
        replace r_1 := r.at 1 _ rfl
        replace r_2 := r.at 2 _ rfl
        replace r_3 := r.at 3 _ rfl
        go_wp2_with (refine here_store 41 _ _ rfl ?_; refine wpList_store_own rfl 41 _ _ rfl _ _ rfl rfl (r.alloc _) (by rfl) (by kernel_rfl) (by rfl) ?_; intro X2 oX hoX hkX; replace hk := hkX _ (hk.alloc _) (by omega); clear hoX hkX)
        exact bodyPost_ret (results_own 41 _ Try.results32 rfl oX Try.underlying41 rfl (by kernel_rfl)) rfl ⟨rfl, hk⟩
end Go.Proofs.Ytkonpnaedniceaa
