/- Layer 19: with more room there are no more lines, of items that take some; without wrapping there is one. -/
import Derived.Test.YtpjppnomfponfaaLaw19Forms
namespace Go.Proofs.Ytpjppnomfponfaa
open Go.RowKit
set_option linter.unusedSimpArgs false
set_option linter.unusedVariables false
theorem linC_step (O : Nat → Int) (room : Int) (wrap : Bool) (k : Nat) : linC O room wrap (k + 1) = linStep room wrap (linC O room wrap k) (O k) := rfl
/-- without wrapping there is one line -/
theorem linC_one (O : Nat → Int) (room : Int) : ∀ k, (linC O room false k).m = min 1 k := by
  intro k
  induction k with
  | zero => rfl
  | succ k ih =>
    rw [linC_step]
    rcases Nat.eq_zero_or_pos k with rfl | hk
    · rfl
    · rw [linStep_no (by unfold colNew; rw [if_neg (by omega)]; rfl)]
      show (linC O room false k).m = _
      omega
theorem colNew_iff {room l x : Int} {m : Nat} (hm : 0 < m) : colNew room true m l x = decide (room < l + x) := by
  unfold colNew; rw [if_neg (by omega), if_pos rfl]
/-- with more room there are no more lines -/
theorem linC_wide {O : Nat → Int} {n : Nat} {r s : Int} (h0 : ∀ i, i < n → 0 ≤ O i) (hrs : r ≤ s) : ∀ k, k ≤ n → 0 ≤ (linC O r true k).l ∧ ((linC O s true k).m < (linC O r true k).m ∨ (linC O s true k).m = (linC O r true k).m ∧ (linC O s true k).l ≤ (linC O r true k).l) := by
  intro k
  induction k with
  | zero => intro _; exact ⟨Int.le_refl _, .inr ⟨rfl, Int.le_refl _⟩⟩
  | succ k ih =>
    intro hk
    obtain ⟨hl, hor⟩ := ih (by omega)
    have hx := h0 k (by omega)
    rw [linC_step, linC_step]
    have m1 := (linC_m O r true k).2
    have m2 := (linC_m O s true k).2
    have z1 := (linC_m O r true k).1
    have z2 := (linC_m O s true k).1
    generalize linC O r true k = c at *
    generalize linC O s true k = d at *
    generalize O k = x at *
    rcases Nat.eq_zero_or_pos k with hk0 | hk0
    · have e1 : c.m = 0 := by omega
      have e2 : d.m = 0 := by omega
      rw [linStep_yes (c := c) (by unfold colNew; rw [if_pos e1]), linStep_yes (c := d) (by unfold colNew; rw [if_pos e2])]
      exact ⟨hx, .inr ⟨by show d.m + 1 = c.m + 1; omega, Int.le_refl _⟩⟩
    · have p1 := m1 hk0
      have p2 := m2 hk0
      by_cases a1 : r < c.l + x
      · rw [linStep_yes (c := c) (by rw [colNew_iff p1]; simpa using a1)]
        by_cases a2 : s < d.l + x
        · rw [linStep_yes (c := d) (by rw [colNew_iff p2]; simpa using a2)]
          refine ⟨hx, ?_⟩
          show d.m + 1 < c.m + 1 ∨ d.m + 1 = c.m + 1 ∧ x ≤ x
          omega
        · rw [linStep_no (c := d) (by rw [colNew_iff p2]; simpa using a2)]
          refine ⟨hx, .inl ?_⟩
          show d.m < c.m + 1
          omega
      · rw [linStep_no (c := c) (by rw [colNew_iff p1]; simpa using a1)]
        by_cases a2 : s < d.l + x
        · rw [linStep_yes (c := d) (by rw [colNew_iff p2]; simpa using a2)]
          refine ⟨by show 0 ≤ c.l + x; omega, ?_⟩
          show d.m + 1 < c.m ∨ d.m + 1 = c.m ∧ x ≤ c.l + x
          omega
        · rw [linStep_no (c := d) (by rw [colNew_iff p2]; simpa using a2)]
          refine ⟨by show 0 ≤ c.l + x; omega, ?_⟩
          show d.m < c.m ∨ d.m = c.m ∧ d.l + x ≤ c.l + x
          omega
/-- items that are but long -/
def plainZ (Y : Nat → Int) (i j : Nat) : Int := [Y i, 0, 1073741824, 0, 0, 0].getD j 0
theorem plain_wish {Y : Nat → Int} {i : Nat} (h0 : 0 ≤ Y i) (h1 : Y i ≤ 1073741824) : outS (itemOf (plainZ Y)) i = Y i := by
  show max 0 (min (Y i) 1073741824) + 0 = Y i
  omega
theorem plain_may {Y : Nat → Int} (h : ∀ i, 0 ≤ Y i ∧ Y i ≤ 4194304) : ∀ n, allI (itemOf (plainZ Y)) n = true := by
  intro n
  induction n with
  | zero => rfl
  | succ n ih =>
    unfold allI
    rw [ih, Bool.true_and]
    unfold itemB
    rw [show (itemOf (plainZ Y) n).base = Y n from rfl, inB_true.2 (h n)]
    rfl
/-- the number of lines alone -/
theorem flexCollect_len (v : Value) (n : Nat) (I : Nat → Item) (room : Int) (wrap : Bool) (w : World) (h : ItV w v n I) (hm : mayI n I = true) (hr : inB 0 4194304 room = true) (M : Nat) (hM : (linC (outS I) room wrap n).m = M) :
    Calls Try.prog 18 #[v, .int .i64 room, .bool wrap] w fun e w' => ∃ o c, e = .returned (.tuple #[.slice o M c, .int .i64 0]) ∧ Kept w w' := by
  have hg : goodC n I room = true := goodC_true.2 ⟨hm, hr⟩
  subst hM
  refine (flexCollect_any v n I room wrap w h (by have := (mayI_true.1 hm).1; omega)).mono fun e w' ⟨u, he, hu, hk⟩ => ?_
  unfold colE at he
  unfold colM at hu
  rw [hg, if_pos rfl] at he hu
  obtain ⟨o, c, rfl⟩ := hu.iv.shape
  exact ⟨o, c, he, hk⟩
def low9 (z : Int) : Int := bits .and .i64 z 511
theorem low9_bd (z : Int) : 0 ≤ low9 z ∧ low9 z ≤ 511 := by
  obtain ⟨x, hx, h0, h1⟩ := masked z 9 511 (by decide) (by decide)
  unfold low9
  omega
set_option maxRecDepth 20000 in
set_option maxHeartbeats 2000000 in
theorem flexWide_main (sl : Option Addr) (n cap : Nat) (S Y : Nat → Int) (hYdef : Y = fun i => low9 (S i)) (room more : Int) (w : World) (hv : IV w (.slice sl n cap) n S) (hn : n ≤ 17592186043904) :
    Calls Try.prog 10 #[.slice sl n cap, .int .i64 room, .int .i64 more] w fun e w' => e = .returned (.bool true) ∧ Kept w w' := by
  obtain ⟨i0, hi, hz0, hz1, hz2⟩ := info_parts itemsInfo
  obtain ⟨r, hr, r1, r2⟩ := masked room 11 2047 (by decide) (by decide)
  obtain ⟨q, hq, q1, q2⟩ := masked more 10 1023 (by decide) (by decide)
  have hY : ∀ i, 0 ≤ Y i ∧ Y i ≤ 511 := fun i => by rw [hYdef]; exact low9_bd (S i)
  have HYd := Lib.hid hYdef
  have HM := Lib.hid (fun k (hk : k ≤ 20) => mayI_true.2 (And.intro (show k ≤ 32 by omega) (plain_may (fun i => ⟨(hY i).1, by have := (hY i).2; omega⟩) k)))
  have HO := Lib.hid (fun i => (plain_wish (Y := Y) (i := i) (hY i).1 (by have := (hY i).2; omega)))
  have HP := Lib.hid hY
  clear hY hYdef
  have hk : Kept w w := Kept.refl w
  go_enter Try.func10, Try.ntmps10
  go_wp2_with fail
  refine (awake19_any _).mono ?_
  rintro e w1 ⟨rfl, hn⟩
  replace hk := hk.trans hn
  clear hn
  go_wp2
  go_loopw [7, 8] (fun v i wx => ∃ k : Nat, k ≤ n ∧ k ≤ 20 ∧ i = .int .i64 k ∧ OR wx w.heap.size 56 6 v k (flat 6 (intC (plainZ Y)) k) ∧ Kept w wx) (fun _ i _ => n - (intOf i).toNat)
  case atStart => exact ⟨0, Nat.zero_le _, by decide, rfl, ⟨World.ownsRow_nil _ _ _ _⟩, hk⟩
  case round =>
    clear hk
    obtain ⟨k, hkn, hk20, rfl, hown, hk⟩ := hrel
    have hsz := hk.size
    by_cases hlt : k < n ∧ k < 20
    · obtain ⟨hl1, hl2⟩ := hlt
      rcases hv.kept hk with ⟨h0, _⟩ | ⟨b, off, c2, hvv, _, hcc, hz⟩
      · omega
      injection hvv with e1 e2 e3
      subst e1 e3
      have c0 := hz k hl1
      have hyk : Y k = low9 (S k) := by rw [HYd.out]
      have e2 : flat 6 (intC (plainZ Y)) (k + 1) = flat 6 (intC (plainZ Y)) k ++ [.int .i64 (Y k), .int .i64 0, .int .i64 1073741824, .int .i64 0, .int .i64 0, .int .i64 0] := rfl
      have hyb := HP.out k
      obtain ⟨y, hy⟩ : ∃ y, low9 (S k) = y := ⟨_, rfl⟩
      rw [hy] at hyk
      rw [hyk] at e2 hyb
      have hlow : bits .and .i64 (S k) 511 = y := hy
      replace e2 := Lib.hid e2
      generalize S k = z at *
      clear hv hyk hy
      go_wp2_with (at_builtin; refine wpList_append_own _ rfl _ _ 43 rfl w.heap.size 56 i0 (.agg #[.int .i64 0, .int .i64 0, .int .i64 0, .int .i64 0, .int .i64 0, .int .i64 0]) 6 48 Try.underlying43 hi hz0 hz1 hz2 rfl (by decide) _ _ _ rfl (hown.own.alloc _) ⟨wr.heap.size, 0, none⟩ 1 1 [.int .i64 y, .int .i64 0, .int .i64 1073741824, .int .i64 0, .int .i64 0, .int .i64 0] rfl rfl (lit_cells wr #[.int .i64 y, .int .i64 0, .int .i64 1073741824, .int .i64 0, .int .i64 0, .int .i64 0] 56) (by simp [Value.oneCell']) (by unfold maxLen; omega) (by omega) (by simp; omega) ?_; intro v2 w2 hown2 hg2 _)
      exact ⟨⟨k + 1, by omega, by omega, by go_num, ⟨by rw [e2.out]; exact hown2⟩, (hk.alloc _).grown hg2 (row_ge hown.own)⟩, by simp [intOf]; omega⟩
    · have hcase : n ≤ k ∨ k < n ∧ 20 ≤ k := by omega
      have hnr := newRow_of hown.own
      have hiv : ItV wr _ k (itemOf (plainZ Y)) := itv_row hnr.rv
      obtain ⟨so, sc, rfl⟩ := hiv.shape
      have hm := HM.out k hk20
      have hwide := (linC_wide (O := outS (itemOf (plainZ Y))) (n := k) (r := r) (s := r + q) (fun i _ => by rw [HO.out]; exact (HP.out i).1) (by omega) k (Nat.le_refl _)).2
      have hone := linC_one (outS (itemOf (plainZ Y))) r k
      obtain ⟨a, ha⟩ : ∃ a, (linC (outS (itemOf (plainZ Y))) r true k).m = a := ⟨_, rfl⟩
      obtain ⟨b, hb⟩ : ∃ b, (linC (outS (itemOf (plainZ Y))) (r + q) true k).m = b := ⟨_, rfl⟩
      have hba : b ≤ a := by omega
      obtain ⟨t, ht⟩ : ∃ t, min 1 k = t := ⟨_, rfl⟩
      rw [ht] at hone
      have HC := Lib.hid (fun wx (hx : ItV wx (.slice so k sc) k (itemOf (plainZ Y))) => And.intro (flexCollect_len _ k _ r true wx hx hm (inB_true.2 (by omega)) a ha) (And.intro (flexCollect_len _ k _ (r + q) true wx hx hm (inB_true.2 (by omega)) b hb) (flexCollect_len _ k _ r false wx hx hm (inB_true.2 (by omega)) t hone)))
      clear hown hv HM HO HP HYd hwide hone ha hb hm hnr
      rcases (by omega : k = 0 ∨ k = 1 ∨ 1 < k) with rfl | rfl | h1
      · obtain rfl : t = 0 := by omega
        have hcn : n ≤ 0 := by omega
        clear hcase ht
        go_wp2_with fail
        refine ((HC.out _ hiv).1).mono ?_
        rintro e w1 ⟨s1, c1, rfl, hn⟩
        replace hk := hk.trans hn
        replace hiv := hiv.kept hn
        clear hn
        go_wp2_with fail
        refine ((HC.out _ hiv).2.1).mono ?_
        rintro e w1 ⟨s2, c2, rfl, hn⟩
        replace hk := hk.trans hn
        replace hiv := hiv.kept hn
        clear hn
        go_wp2_with fail
        refine ((HC.out _ hiv).2.2).mono ?_
        rintro e w1 ⟨s3, c3, rfl, hn⟩
        replace hk := hk.trans hn
        replace hiv := hiv.kept hn
        clear hn
        go_wp2_with fail
        refine (num_any _ _).mono ?_
        rintro e w1 ⟨rfl, rfl⟩
        go_wp2_with fail
        refine (num_any _ _).mono ?_
        rintro e w1 ⟨rfl, rfl⟩
        go_wp2_with fail
        refine (num_any _ _).mono ?_
        rintro e w1 ⟨rfl, rfl⟩
        go_wp2
        go_ret
        exact ⟨ret_bool (by first | rfl | (simp; done) | (simp; omega)), hk⟩
      · obtain rfl : t = 1 := by omega
        have hcn : n ≤ 1 := by omega
        clear hcase ht
        go_wp2_with fail
        refine ((HC.out _ hiv).1).mono ?_
        rintro e w1 ⟨s1, c1, rfl, hn⟩
        replace hk := hk.trans hn
        replace hiv := hiv.kept hn
        clear hn
        go_wp2_with fail
        refine ((HC.out _ hiv).2.1).mono ?_
        rintro e w1 ⟨s2, c2, rfl, hn⟩
        replace hk := hk.trans hn
        replace hiv := hiv.kept hn
        clear hn
        go_wp2_with fail
        refine ((HC.out _ hiv).2.2).mono ?_
        rintro e w1 ⟨s3, c3, rfl, hn⟩
        replace hk := hk.trans hn
        replace hiv := hiv.kept hn
        clear hn
        go_wp2_with fail
        refine (num_any _ _).mono ?_
        rintro e w1 ⟨rfl, rfl⟩
        go_wp2_with fail
        refine (num_any _ _).mono ?_
        rintro e w1 ⟨rfl, rfl⟩
        go_wp2_with fail
        refine (num_any _ _).mono ?_
        rintro e w1 ⟨rfl, rfl⟩
        go_wp2
        go_ret
        exact ⟨ret_bool (by first | rfl | (simp; done) | (simp; omega)), hk⟩
      · obtain rfl : t = 1 := by omega
        clear ht
        rcases hcase with hcn | ⟨hcn, hc20⟩
        all_goals
          go_wp2_with fail
          refine ((HC.out _ hiv).1).mono ?_
          rintro e w1 ⟨s1, c1, rfl, hn⟩
          replace hk := hk.trans hn
          replace hiv := hiv.kept hn
          clear hn
          go_wp2_with fail
          refine ((HC.out _ hiv).2.1).mono ?_
          rintro e w1 ⟨s2, c2, rfl, hn⟩
          replace hk := hk.trans hn
          replace hiv := hiv.kept hn
          clear hn
          go_wp2_with fail
          refine ((HC.out _ hiv).2.2).mono ?_
          rintro e w1 ⟨s3, c3, rfl, hn⟩
          replace hk := hk.trans hn
          replace hiv := hiv.kept hn
          clear hn
          go_wp2_with fail
          refine (num_any _ _).mono ?_
          rintro e w1 ⟨rfl, rfl⟩
          go_wp2_with fail
          refine (num_any _ _).mono ?_
          rintro e w1 ⟨rfl, rfl⟩
          go_wp2_with fail
          refine (num_any _ _).mono ?_
          rintro e w1 ⟨rfl, rfl⟩
          go_wp2
          go_ret
          exact ⟨ret_bool (by first | rfl | (simp; done) | (simp; omega)), hk⟩
theorem flexWide_walk (v : Value) (n : Nat) (S : Nat → Int) (room more : Int) (w : World) (hv : IV w v n S) (hn : n ≤ 17592186043904) :
    Calls Try.prog 10 #[v, .int .i64 room, .int .i64 more] w fun e w' => e = .returned (.bool true) ∧ Kept w w' := by
  obtain ⟨sl, cap, rfl⟩ := hv.shape
  exact flexWide_main sl n cap S _ rfl room more w hv hn
end Go.Proofs.Ytpjppnomfponfaa
