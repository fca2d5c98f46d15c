/- Layer 5: as many words as there are beginnings, and no spaces turn what they are. -/
import Derived.Test.YtbegdnpckjfgbaaWordsG
import Derived.Test.YtbegdnpckjfgbaaMask
import Derived.Test.YtbegdnpckjfgbaaMarg
namespace Go.Proofs.Ytbegdnpckjfgbaa
open Go.RowKit Go.Lib
set_option linter.unusedSimpArgs false
set_option linter.unusedVariables false
def hs (i : Nat) : Nat := if i = 0 then 0 else 1
def ht (H : Nat → Nat) (i : Nat) : Nat := if i = 0 then 0 else H i
def h1 (H : Nat → Nat) (i : Nat) : Nat := if i = 0 then 1 else H i
def cS (M : Nat → Nat) : Nat → Int
  | 0 => 0
  | k + 1 => cS M k + (if k = 0 then 0 else 256) + 512 * (M k : Int)
def cA (M : Nat → Nat) (i : Nat) : Int := 512 * (M i : Int)
theorem cS_bd {M : Nat → Nat} (hM : ∀ i, M i ≤ 4) (k : Nat) : 0 ≤ cS M k ∧ cS M k ≤ 2304 * (k : Int) := by
  induction k with
  | zero => exact ⟨Int.le_refl _, Int.le_refl _⟩
  | succ k ih =>
    have := hM k
    rw [show cS M (k + 1) = cS M k + (if k = 0 then 0 else 256) + 512 * (M k : Int) from rfl]
    split <;> omega
theorem cS_tot {M : Nat → Nat} (hM : ∀ i, M i ≤ 4) {k : Nat} (hk : k ≤ 8) : totS (cA M) k = cS M k := by
  induction k with
  | zero => rfl
  | succ k ih =>
    have h := cS_bd hM (k + 1)
    rw [show totS (cA M) (k + 1) = wrap64 (totS (cA M) k + (if k = 0 then 0 else 256) + cA M k) from rfl, ih (by omega)]
    rw [show cS M k + (if k = 0 then 0 else 256) + cA M k = cS M (k + 1) from rfl]
    unfold wrap64
    omega
theorem longS_bd {M : Nat → Nat} (hM : ∀ i, M i ≤ 4) (k : Nat) : 0 ≤ longS (cA M) k ∧ longS (cA M) k ≤ 2048 := by
  induction k with
  | zero => exact ⟨Int.le_refl _, by show (0 : Int) ≤ 2048; decide⟩
  | succ k ih =>
    have := hM k
    rw [show longS (cA M) (k + 1) = max (longS (cA M) k) (cA M k) from rfl]
    unfold cA at *
    omega
theorem a_cut : ∀ a, a < 4 → (⟨#[97, 97, 97, 97]⟩ : ByteArray).extract 0 (a + 1) = fS (a + 1) := by decide +kernel
theorem s_cut : ∀ a, a < 2 → (⟨#[32, 32, 32]⟩ : ByteArray).extract 0 (a + 1) = spS (a + 1) := by decide +kernel
theorem none_cat (s : ByteArray) : s ++ (⟨#[]⟩ : ByteArray) = s := by apply ByteArray.ext; rw [ByteArray.data_append]; simp
theorem cat_none (s : ByteArray) : (⟨#[]⟩ : ByteArray) ++ s = s := by apply ByteArray.ext; rw [ByteArray.data_append]; simp
theorem cat_cat (a b c : ByteArray) : a ++ b ++ c = a ++ (b ++ c) := by apply ByteArray.ext; simp only [ByteArray.data_append]; exact Array.append_assoc ..
theorem GT_ahead (H M : Nat → Nat) (k : Nat) (hk : 0 < k) : (⟨#[32]⟩ : ByteArray) ++ GT (ht H) M k = GT (h1 H) M k := by
  induction k with
  | zero => omega
  | succ k ih =>
    rw [show GT (ht H) M (k + 1) = GT (ht H) M k ++ spS (ht H k) ++ fS (M k) from rfl, show GT (h1 H) M (k + 1) = GT (h1 H) M k ++ spS (h1 H k) ++ fS (M k) from rfl, ← cat_cat, ← cat_cat]
    rcases Nat.eq_zero_or_pos k with rfl | h
    · congr 1
    · rw [ih h, show ht H k = H k from if_neg (by omega), show h1 H k = H k from if_neg (by omega)]
theorem GP_bd {h M : Nat → Nat} (hh : ∀ i, h i ≤ 2) (hM : ∀ i, M i ≤ 4) (k : Nat) : GP h M k ≤ 6 * k := by
  induction k with
  | zero => exact Nat.le_refl _
  | succ k ih =>
    have := hh k
    have := hM k
    rw [show GP h M (k + 1) = GP h M k + h k + M k from rfl]
    omega
/-- what Split makes of such a text -/
theorem GQ_split {h M : Nat → Nat} {k q : Nat} (hM : ∀ i, 1 ≤ M i ∧ M i ≤ 4) (hh : ∀ i, 0 < i → 1 ≤ h i) (hh2 : ∀ i, h i ≤ 2) (hk : k ≤ 8) (hq : q ≤ 2) (w : World) :
    Calls Try.prog 16 #[.string (GQ h M k q)] w fun e w' => ∃ u, e = .returned (.tuple #[u, .int .i64 0]) ∧ WV w' u k (fun i => fS (M i)) (cA M) (wG (GQ h M k q)) ∧ Kept w w' := by
  obtain ⟨a1, a2⟩ := GQ_all (h := h) (M := M) (k := k) (q := q) (fun i _ => by have := hM i; omega) (fun i h0 _ => hh i h0)
  have hsz : (GQ h M k q).size ≤ 80 := by rw [GQ_size]; have := GP_bd hh2 (fun i => (hM i).2) k; omega
  refine (wordsSplit_any (GQ h M k q) w (by omega)).mono fun e w' ⟨u, he, ho, hkk⟩ => ⟨u, ?_, ?_, hkk⟩
  · rw [he]; unfold splE; rw [if_pos hsz]
  · rw [show splN (GQ h M k q) = k by unfold splN; rw [if_pos hsz, a1]] at ho
    exact wv_same ho.wv fun i hi => ⟨(a2 i hi).1, (a2 i hi).2, rfl⟩
theorem plain_split {M H : Nat → Nat} {k : Nat} (hM : ∀ i, 1 ≤ M i ∧ M i ≤ 4) (hk : k ≤ 8) (w : World) :
    Calls Try.prog 16 #[.string (GT hs M k)] w fun e w' => ∃ u, e = .returned (.tuple #[u, .int .i64 0]) ∧ (∃ G, WV w' u k (fun i => fS (M i)) (cA M) G) ∧ Kept w w' := by
  have e : GT hs M k = GQ hs M k 0 := (none_cat _).symm
  rw [e]
  exact (GQ_split hM (fun i hi => by unfold hs; rw [if_neg (by omega)]; exact Nat.le_refl _) (fun i => by unfold hs; split <;> omega) hk (by omega) w).mono fun e w' ⟨u, he, hw, hkk⟩ => ⟨u, he, ⟨_, hw⟩, hkk⟩
theorem wide_split {M H : Nat → Nat} {k : Nat} (hM : ∀ i, 1 ≤ M i ∧ M i ≤ 4) (hH : ∀ i, 1 ≤ H i ∧ H i ≤ 2) (hk : k ≤ 8) (w : World) :
    Calls Try.prog 16 #[.string (⟨#[32]⟩ ++ GT (ht H) M k ++ ⟨#[32]⟩)] w fun e w' => ∃ u, e = .returned (.tuple #[u, .int .i64 0]) ∧ (∃ G, WV w' u k (fun i => fS (M i)) (cA M) G) ∧ Kept w w' := by
  rcases Nat.eq_zero_or_pos k with rfl | h
  · have e : (⟨#[32]⟩ ++ GT (ht H) M 0 ++ ⟨#[32]⟩ : ByteArray) = GQ hs M 0 2 := by show (⟨#[32]⟩ ++ ⟨#[]⟩ ++ ⟨#[32]⟩ : ByteArray) = ⟨#[]⟩ ++ spS 2; decide +kernel
    rw [e]
    exact (GQ_split hM (fun i hi => by unfold hs; rw [if_neg (by omega)]; exact Nat.le_refl _) (fun i => by unfold hs; split <;> omega) hk (by omega) w).mono fun e w' ⟨u, he, hw, hkk⟩ => ⟨u, he, ⟨_, hw⟩, hkk⟩
  · have e : (⟨#[32]⟩ ++ GT (ht H) M k ++ ⟨#[32]⟩ : ByteArray) = GQ (h1 H) M k 1 := by rw [GT_ahead H M k h]; rfl
    rw [e]
    exact (GQ_split hM (fun i hi => by unfold h1; rw [if_neg (by omega)]; exact (hH i).1) (fun i => by unfold h1; split; omega; exact (hH i).2) hk (by omega) w).mono fun e w' ⟨u, he, hw, hkk⟩ => ⟨u, he, ⟨_, hw⟩, hkk⟩
set_option maxRecDepth 100000 in
set_option maxHeartbeats 8000000 in
theorem wordsCount_main (o : Option Addr) (n cap : Nat) (Z : Nat → Int) (M H : Nat → Nat) (hZM : ∀ i, bits .and .i64 (Z i) 3 = ((M i : Nat) : Int) - 1) (hZH : ∀ i, bits .and .i64 (Z i / 4) 1 = ((H i : Nat) : Int) - 1) (hM : ∀ i, 1 ≤ M i ∧ M i ≤ 4) (hH : ∀ i, 1 ≤ H i ∧ H i ≤ 2) (w : World) (hv : IV w (.slice o n cap) n Z) (hn : n ≤ 17592186043904) :
    Calls Try.prog 6 #[.slice o n cap] w fun e w' => e = .returned (.bool true) ∧ Kept w w' := by
  obtain ⟨N, hN⟩ : ∃ N, min n 8 = N := ⟨_, rfl⟩
  have hNn : N ≤ n := by omega
  have hN8 : N ≤ 8 := by omega
  have hNe : N = n ∨ N = 8 := by omega
  have HC := Lib.hid (fun k => cS_bd (fun i => (hM i).2) k)
  have HL := Lib.hid (fun k => longS_bd (fun i => (hM i).2) k)
  have HGs := Lib.hid (fun k => (show (GT hs M k).size ≤ 6 * k by rw [GT_size]; exact GP_bd (fun i => by unfold hs; split <;> omega) (fun i => (hM i).2) k))
  have HGt := Lib.hid (fun k => (show (GT (ht H) M k).size ≤ 6 * k by rw [GT_size]; exact GP_bd (fun i => by unfold ht; split; omega; exact (hH i).2) (fun i => (hM i).2) k))
  have HM := Lib.hid hM
  have HH := Lib.hid hH
  have HZM := Lib.hid hZM
  have HZH := Lib.hid hZH
  clear hN hM hH hZM hZH
  have hk : Kept w w := Kept.refl w
  go_enter Try.func6, Try.ntmps6
  go_wp2_with fail
  refine (awake5_any _).mono ?_
  rintro e w1 ⟨rfl, hn⟩
  replace hk := hk.trans hn
  clear hn
  go_wp2
  go_loopw [3, 4, 5, 6, 7, 8, 9, 10] (fun s t sm mo kk i _ _ wx => ∃ k : Nat, k ≤ N ∧ i = .int .i64 k ∧ kk = .int .i64 k ∧ s = .string (GT hs M k) ∧ t = .string (GT (ht H) M k) ∧ sm = .int .i64 (cS M k) ∧ mo = .int .i64 (longS (cA M) k) ∧ wx = w1) (fun _ _ _ _ _ i _ _ _ => N - (intOf i).toNat)
  case atStart => exact ⟨0, Nat.zero_le _, rfl, rfl, rfl, rfl, rfl, rfl, rfl⟩
  case round =>
    obtain ⟨k, hkN, rfl, rfl, rfl, rfl, rfl, rfl, rfl⟩ := hrel
    by_cases hlt : k < N
    · have hi0 : (0 : Int) ≤ (k : Int) := Int.natCast_nonneg _
      have hi1 : (k : Int) < (n : Int) := by omega
      have hi2 : (k : Int) < 8 := by omega
      rcases hv.kept hk with ⟨h0, _⟩ | ⟨b, off, cp, hq, hq2, hcap, hw⟩
      · omega
      · injection hq with hq hq1 hq3
        subst hq
        have c0 := hw k (by omega)
        have bM := HM.out k
        have bH := HH.out k
        have zM := HZM.out k
        have zH := HZH.out k
        have bC := HC.out k
        have bL := HL.out k
        have bs := HGs.out k
        have bt := HGt.out k
        have eS : GT hs M (k + 1) = GT hs M k ++ spS (hs k) ++ fS (M k) := rfl
        have eT : GT (ht H) M (k + 1) = GT (ht H) M k ++ spS (ht H k) ++ fS (M k) := rfl
        have eC : cS M (k + 1) = cS M k + (if k = 0 then 0 else 256) + 512 * (M k : Int) := rfl
        have eL : longS (cA M) (k + 1) = max (longS (cA M) k) (512 * (M k : Int)) := rfl
        have eH : ht H k = if k = 0 then 0 else H k := rfl
        clear hw HC HL HGs HGt HM HH HZM HZH hv hq1 hq3
        generalize GT hs M k = S at *
        generalize GT (ht H) M k = T at *
        generalize cS M k = p at *
        generalize longS (cA M) k = q at *
        generalize Z k = z at *
        obtain ⟨a, ha⟩ : ∃ a, M k = a + 1 := ⟨M k - 1, by omega⟩
        obtain ⟨c, hc⟩ : ∃ c, H k = c + 1 := ⟨H k - 1, by omega⟩
        rw [ha] at bM zM eS eT eC eL
        rw [hc] at bH zH eH
        rw [show ((a + 1 : Nat) : Int) - 1 = (a : Int) by omega] at zM
        rw [show ((c + 1 : Nat) : Int) - 1 = (c : Int) by omega] at zH
        have ec := Lib.hid (a_cut a (by omega))
        have es := Lib.hid (s_cut c (by omega))
        clear ha hc
        replace eS := Lib.hid eS
        replace eT := Lib.hid eT
        replace eC := Lib.hid eC
        replace eL := Lib.hid eL
        replace eH := Lib.hid eH
        rcases (by omega : q < 512 * ((a : Int) + 1) ∨ (q ≤ 512 * ((a : Int) + 1) ∧ 512 * ((a : Int) + 1) ≤ q) ∨ 512 * ((a : Int) + 1) < q) with m1 | m1 | m1
        all_goals
          rcases Nat.eq_zero_or_pos k with h0 | h0
          · have hk0 : ¬ 0 < k := by omega
            replace h0 := Lib.hid h0
            go_wp2
            exact ⟨⟨k + 1, by omega, by first | rfl | go_num, by first | rfl | go_num, congrArg Value.string (by rw [eS.out, show hs k = 0 from if_pos h0.out, show spS 0 = ⟨#[]⟩ from rfl, none_cat, Nat.add_comm 1 a, ec.out]), congrArg Value.string (by rw [eT.out, eH.out, if_pos h0.out, show spS 0 = ⟨#[]⟩ from rfl, none_cat, Nat.add_comm 1 a, ec.out]), congrArg _ (by rw [eC.out, if_pos h0.out]; omega), congrArg _ (by rw [eL.out]; omega), by first | trivial | rfl⟩, by first | (simp [intOf]; done) | (simp [intOf]; omega)⟩
          · go_wp2
            exact ⟨⟨k + 1, by omega, by first | rfl | go_num, by first | rfl | go_num, congrArg Value.string (by rw [eS.out, show hs k = 1 from if_neg (by omega), show (⟨#[32]⟩ : ByteArray) = spS 1 by decide +kernel, Nat.add_comm 1 a, ec.out]), congrArg Value.string (by rw [eT.out, eH.out, if_neg (by omega), Nat.add_comm 1 a, Nat.add_comm 1 c, ec.out, es.out]), congrArg _ (by rw [eC.out, if_neg (by omega)]; omega), congrArg _ (by rw [eL.out]; omega), by first | trivial | rfl⟩, by first | (simp [intOf]; done) | (simp [intOf]; omega)⟩
    · obtain rfl : k = N := by omega
      have H1 := Lib.hid (fun wx => plain_split (M := M) (H := H) (k := k) HM.out hN8 wx)
      have H2 := Lib.hid (fun wx => wide_split (M := M) (H := H) (k := k) HM.out HH.out hN8 wx)
      have HT := Lib.hid (fun wx v G (hx : WV wx v k (fun i => fS (M i)) (cA M) G) => (show Calls Try.prog 22 #[v] wx (fun e w' => e = .returned (.int .i64 (cS M k)) ∧ Kept wx w') from by have := wordsTotal_any v k _ _ _ wx hx (by omega); rw [cS_tot (fun i => (HM.out i).2) hN8] at this; exact this))
      have HL2 := Lib.hid (fun wx v G (hx : WV wx v k (fun i => fS (M i)) (cA M) G) => wordsLongest_any v k _ _ _ wx hx (by omega))
      have bs := HGs.out k
      have bt := HGt.out k
      have bt2 : (⟨#[32]⟩ ++ GT (ht H) M k : ByteArray).size ≤ 60 := by rw [size_append']; show 1 + _ ≤ 60; omega
      clear HC HL HGs HGt HM HH HZM HZH
      generalize cS M k = p at *
      generalize longS (cA M) k = q at *
      generalize GT hs M k = S at *
      generalize GT (ht H) M k = T at *
      rcases (by omega : k = n ∨ (k = 8 ∧ 8 < n)) with hk8 | ⟨hk8, hk9⟩
      · have hk9 : (n : Int) ≤ (k : Int) := by omega
        clear hNe hk8
        go_wp2_with fail
        refine (H1.out _).mono ?_
        rintro e w1 ⟨u1, rfl, ⟨G1, hu1⟩, hn⟩
        replace hk := hk.trans hn
        clear hn
        go_wp2_with fail
        refine (H2.out _).mono ?_
        rintro e w1 ⟨u2, rfl, ⟨G2, hu2⟩, hn⟩
        replace hk := hk.trans hn
        replace hu1 := hu1.kept hn
        clear hn
        obtain ⟨oa, ca, rfl⟩ := hu1.shape
        obtain ⟨ob, cb, rfl⟩ := hu2.shape
        go_wp2_with fail
        refine (num_any _ _).mono ?_
        rintro e w1 ⟨rfl, rfl⟩
        go_wp2_with fail
        refine (num_any _ _).mono ?_
        rintro e w1 ⟨rfl, rfl⟩
        clear H1 H2 bs bt bt2
        go_wp2
        go_loopw [15] (fun i wx => ∃ j : Nat, j ≤ k ∧ i = .int .i64 j ∧ Kept w1 wx) (fun i _ => k - (intOf i).toNat)
        case atStart => exact ⟨0, Nat.zero_le _, rfl, Kept.refl _⟩
        case round =>
          obtain ⟨j, hjk, rfl, hkx⟩ := hrel
          by_cases hj : j < k
          · have hj0 : (0 : Int) ≤ (j : Int) := Int.natCast_nonneg _
            have hj1 : (j : Int) < (k : Int) := by omega
            rcases hu1.kept hkx with ⟨h0, _⟩ | ⟨b1, off1, cp1, hq1, _, hcap1, w1a⟩
            · omega
            · rcases hu2.kept hkx with ⟨h0, _⟩ | ⟨b2, off2, cp2, hq2, _, hcap2, w2a⟩
              · omega
              · injection hq1 with hq1 _ hq1c
                injection hq2 with hq2 _ hq2c
                subst hq1 hq2 hq1c hq2c
                have c0 := w1a.text j hj
                have c1 := w1a.adv j hj
                have d0 := w2a.text j hj
                have d1 := w2a.adv j hj
                clear w1a w2a HT HL2
                generalize fS (M j) = X at *
                generalize cA M j = x at *
                go_wp2
                go_quiet (fail)
                go_wp2
                go_roundw
                case rel => exact ⟨j + 1, by omega, by go_num, hkx.drewN _⟩
                case measure => simp [intOf]; omega
          · obtain rfl : j = k := by omega
            replace hk := hk.trans hkx
            have hu1 := hu1.kept hkx
            have hu2 := hu2.kept hkx
            clear hkx
            go_wp2_with fail
            refine (HT.out _ _ _ hu1).mono ?_
            rintro e w1 ⟨rfl, hn⟩
            replace hk := hk.trans hn
            replace hu1 := hu1.kept hn
            replace hu2 := hu2.kept hn
            clear hn
            go_wp2_with fail
            refine (HT.out _ _ _ hu2).mono ?_
            rintro e w1 ⟨rfl, hn⟩
            replace hk := hk.trans hn
            replace hu1 := hu1.kept hn
            replace hu2 := hu2.kept hn
            clear hn
            go_wp2_with fail
            refine (HL2.out _ _ _ hu1).mono ?_
            rintro e w1 ⟨rfl, hn⟩
            replace hk := hk.trans hn
            replace hu1 := hu1.kept hn
            replace hu2 := hu2.kept hn
            clear hn
            go_wp2_with fail
            refine (wordsTotal_none _ _ (fun _ => 0) _).mono ?_
            rintro e w1 ⟨rfl, hn⟩
            replace hk := hk.trans hn
            replace hu1 := hu1.kept hn
            replace hu2 := hu2.kept hn
            clear hn
            go_wp2_with fail
            refine (wordsLongest_none _ _ (fun _ => 0) _).mono ?_
            rintro e w1 ⟨rfl, hn⟩
            replace hk := hk.trans hn
            replace hu1 := hu1.kept hn
            replace hu2 := hu2.kept hn
            clear hn
            go_wp2
            go_ret
            exact ⟨rfl, hk⟩
      · have hk10 : (8 : Int) ≤ (k : Int) := by omega
        have hk11 : (k : Int) < (n : Int) := by omega
        clear hNe hk8 hk9
        go_wp2_with fail
        refine (H1.out _).mono ?_
        rintro e w1 ⟨u1, rfl, ⟨G1, hu1⟩, hn⟩
        replace hk := hk.trans hn
        clear hn
        go_wp2_with fail
        refine (H2.out _).mono ?_
        rintro e w1 ⟨u2, rfl, ⟨G2, hu2⟩, hn⟩
        replace hk := hk.trans hn
        replace hu1 := hu1.kept hn
        clear hn
        obtain ⟨oa, ca, rfl⟩ := hu1.shape
        obtain ⟨ob, cb, rfl⟩ := hu2.shape
        go_wp2_with fail
        refine (num_any _ _).mono ?_
        rintro e w1 ⟨rfl, rfl⟩
        go_wp2_with fail
        refine (num_any _ _).mono ?_
        rintro e w1 ⟨rfl, rfl⟩
        clear H1 H2 bs bt bt2
        go_wp2
        go_loopw [15] (fun i wx => ∃ j : Nat, j ≤ k ∧ i = .int .i64 j ∧ Kept w1 wx) (fun i _ => k - (intOf i).toNat)
        case atStart => exact ⟨0, Nat.zero_le _, rfl, Kept.refl _⟩
        case round =>
          obtain ⟨j, hjk, rfl, hkx⟩ := hrel
          by_cases hj : j < k
          · have hj0 : (0 : Int) ≤ (j : Int) := Int.natCast_nonneg _
            have hj1 : (j : Int) < (k : Int) := by omega
            rcases hu1.kept hkx with ⟨h0, _⟩ | ⟨b1, off1, cp1, hq1, _, hcap1, w1a⟩
            · omega
            · rcases hu2.kept hkx with ⟨h0, _⟩ | ⟨b2, off2, cp2, hq2, _, hcap2, w2a⟩
              · omega
              · injection hq1 with hq1 _ hq1c
                injection hq2 with hq2 _ hq2c
                subst hq1 hq2 hq1c hq2c
                have c0 := w1a.text j hj
                have c1 := w1a.adv j hj
                have d0 := w2a.text j hj
                have d1 := w2a.adv j hj
                clear w1a w2a HT HL2
                generalize fS (M j) = X at *
                generalize cA M j = x at *
                go_wp2
                go_quiet (fail)
                go_wp2
                go_roundw
                case rel => exact ⟨j + 1, by omega, by go_num, hkx.drewN _⟩
                case measure => simp [intOf]; omega
          · obtain rfl : j = k := by omega
            replace hk := hk.trans hkx
            have hu1 := hu1.kept hkx
            have hu2 := hu2.kept hkx
            clear hkx
            go_wp2_with fail
            refine (HT.out _ _ _ hu1).mono ?_
            rintro e w1 ⟨rfl, hn⟩
            replace hk := hk.trans hn
            replace hu1 := hu1.kept hn
            replace hu2 := hu2.kept hn
            clear hn
            go_wp2_with fail
            refine (HT.out _ _ _ hu2).mono ?_
            rintro e w1 ⟨rfl, hn⟩
            replace hk := hk.trans hn
            replace hu1 := hu1.kept hn
            replace hu2 := hu2.kept hn
            clear hn
            go_wp2_with fail
            refine (HL2.out _ _ _ hu1).mono ?_
            rintro e w1 ⟨rfl, hn⟩
            replace hk := hk.trans hn
            replace hu1 := hu1.kept hn
            replace hu2 := hu2.kept hn
            clear hn
            go_wp2_with fail
            refine (wordsTotal_none _ _ (fun _ => 0) _).mono ?_
            rintro e w1 ⟨rfl, hn⟩
            replace hk := hk.trans hn
            replace hu1 := hu1.kept hn
            replace hu2 := hu2.kept hn
            clear hn
            go_wp2_with fail
            refine (wordsLongest_none _ _ (fun _ => 0) _).mono ?_
            rintro e w1 ⟨rfl, hn⟩
            replace hk := hk.trans hn
            replace hu1 := hu1.kept hn
            replace hu2 := hu2.kept hn
            clear hn
            go_wp2
            go_ret
            exact ⟨rfl, hk⟩
theorem wordsCount_walk (v : Value) (n : Nat) (Z : Nat → Int) (w : World) (hv : IV w v n Z) (hn : n ≤ 17592186043904) :
    Calls Try.prog 6 #[v] w fun e w' => e = .returned (.bool true) ∧ Kept w w' := by
  obtain ⟨o, cap, rfl⟩ := hv.shape
  have a1 : ∀ i, ∃ a : Nat, bits .and .i64 (Z i) 3 = (a : Int) ∧ a ≤ 3 := fun i => by
    obtain ⟨x, hx, x0, x1⟩ := masked (Z i) 2 3 (by decide) (by decide)
    exact ⟨x.toNat, by omega, by omega⟩
  have a2 : ∀ i, ∃ a : Nat, bits .and .i64 (Z i / 4) 1 = (a : Int) ∧ a ≤ 1 := fun i => by
    obtain ⟨x, hx, x0, x1⟩ := masked (Z i / 4) 1 1 (by decide) (by decide)
    exact ⟨x.toNat, by omega, by omega⟩
  exact wordsCount_main o n cap Z (fun i => (a1 i).choose + 1) (fun i => (a2 i).choose + 1) (fun i => by have := (a1 i).choose_spec.1; omega) (fun i => by have := (a2 i).choose_spec.1; omega) (fun i => by have := (a1 i).choose_spec.2; omega) (fun i => by have := (a2 i).choose_spec.2; omega) w hv hn
end Go.Proofs.Ytbegdnpckjfgbaa
