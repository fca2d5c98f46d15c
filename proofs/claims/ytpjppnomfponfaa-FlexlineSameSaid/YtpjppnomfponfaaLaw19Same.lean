/- Layer 19: items of one size: as many in each line as fit, but the last one. -/
import Derived.Test.YtpjppnomfponfaaLaw19Wide
import Derived.Test.YtpjppnomfponfaaStore
namespace Go.Proofs.Ytpjppnomfponfaa
open Go.RowKit
set_option linter.unusedSimpArgs false
set_option linter.unusedVariables false
/-- how many fit -/
def fitS (r w : Int) : Int := max 1 (r / w)
theorem fit_iff {r w t : Int} (hw : 1 ≤ w) (h1 : 1 ≤ t) : r < t * w + w ↔ fitS r w < t + 1 := by
  have e : t * w + w = (t + 1) * w := by rw [Int.add_mul]; omega
  rw [e]
  have := Int.ediv_lt_iff_lt_mul (a := r) (b := t + 1) (show 0 < w by omega)
  unfold fitS
  omega
/-- the lines of j items: q full ones, and t in the last one -/
def SameAt (f w : Int) (c : Col) (j : Nat) : Prop := ∃ (q : Nat) (t : Int), (j : Int) = q * f + t ∧ 1 ≤ t ∧ t ≤ f ∧ c.m = q + 1 ∧ c.l = t * w ∧ (∀ i, i < q → c.Z i = f) ∧ c.Z q = t
theorem sameAt {O : Nat → Int} {r w : Int} {n : Nat} (hw : 1 ≤ w) (hO : ∀ i, i < n → O i = w) : ∀ j, j < n → SameAt (fitS r w) w (linC O r true (j + 1)) (j + 1) := by
  have hf : 1 ≤ fitS r w := by unfold fitS; omega
  intro j
  induction j with
  | zero =>
    intro h0
    refine ⟨0, 1, by simp, by omega, hf, rfl, ?_, fun i hi => by omega, rfl⟩
    show O 0 = 1 * w
    rw [hO 0 h0]; omega
  | succ j ih =>
    intro hj
    obtain ⟨q, t, h1, h2, h3, h4, h5, h6, h7⟩ := ih (by omega)
    rw [linC_step, hO (j + 1) hj]
    generalize linC O r true (j + 1) = c at *
    have key := fit_iff (r := r) (w := w) (t := t) hw h2
    by_cases hn : r < c.l + w
    · have ht : t = fitS r w := by rw [h5] at hn; have := key.1 hn; omega
      rw [linStep_yes (by rw [colNew_iff (by omega)]; simpa using hn)]
      refine ⟨q + 1, 1, ?_, by omega, hf, by show c.m + 1 = _; omega, by show w = 1 * w; omega, fun i hi => ?_, ?_⟩
      · have e : ((q + 1 : Nat) : Int) * fitS r w = q * fitS r w + fitS r w := by rw [Int.natCast_add, Int.add_mul]; simp
        rw [e]; omega
      · show incrZ (pushZ c.Z c.m) (c.m + 1) i = _
        unfold incrZ pushZ
        rw [if_neg (by omega), if_neg (by omega)]
        rcases Nat.lt_or_ge i q with hq | hq
        · exact h6 i hq
        · obtain rfl : i = q := by omega
          omega
      · show incrZ (pushZ c.Z c.m) (c.m + 1) (q + 1) = 1
        unfold incrZ pushZ
        rw [if_pos (by omega), if_pos (by omega)]; rfl
    · rw [linStep_no (by rw [colNew_iff (by omega)]; simpa using hn)]
      have hlt : t + 1 ≤ fitS r w := by rw [h5] at hn; have := mt key.2 hn; omega
      refine ⟨q, t + 1, by omega, by omega, hlt, h4, ?_, fun i hi => ?_, ?_⟩
      · show c.l + w = _
        rw [h5, Int.add_mul]; omega
      · show incrZ c.Z c.m i = _
        unfold incrZ
        rw [if_neg (by omega)]
        exact h6 i hi
      · show incrZ c.Z c.m q = _
        unfold incrZ
        rw [if_pos (by omega), h7]
/-- how many lines, and how many in each -/
theorem same_all {O : Nat → Int} {r w : Int} {n : Nat} (hw : 1 ≤ w) (hO : ∀ i, i < n → O i = w) :
    (((linC O r true n).m : Nat) : Int) = ((n : Int) + fitS r w - 1) / fitS r w ∧ (∀ i, i < (linC O r true n).m → 1 ≤ (linC O r true n).Z i ∧ (linC O r true n).Z i ≤ fitS r w) ∧ ∀ i, i + 1 < (linC O r true n).m → (linC O r true n).Z i = fitS r w := by
  have hf : 1 ≤ fitS r w := by unfold fitS; omega
  cases n with
  | zero =>
    refine ⟨?_, fun i hi => by exact absurd hi (by simp [linC]), fun i hi => by exact absurd hi (by simp [linC])⟩
    show (0 : Int) = _
    rw [Int.ediv_eq_zero_of_lt (by simp; omega) (by simp; omega)]
  | succ j =>
    obtain ⟨q, t, h1, h2, h3, h4, h5, h6, h7⟩ := sameAt (r := r) hw hO j (by omega)
    rw [h4]
    refine ⟨?_, fun i hi => ?_, fun i hi => h6 i (by omega)⟩
    · rw [h1]
      have e : (q : Int) * fitS r w + t + fitS r w - 1 = (t - 1) + ((q : Int) + 1) * fitS r w := by rw [Int.add_mul]; omega
      rw [e, Int.add_mul_ediv_right _ _ (by omega), Int.ediv_eq_zero_of_lt (by omega) (by omega)]
      simp
    · rcases Nat.lt_or_ge i q with hq | hq
      · rw [h6 i hq]; omega
      · obtain rfl : i = q := by omega
        rw [h7]; omega
theorem colE_ok {n : Nat} {I : Nat → Item} {room : Int} (h : mayI n I = true) (hr : inB 0 4194304 room = true) : colE n I room = 0 := by unfold colE; rw [goodC_true.2 ⟨h, hr⟩]; rfl
theorem colM_ok {n : Nat} {I : Nat → Item} {room : Int} {wrap : Bool} (h : mayI n I = true) (hr : inB 0 4194304 room = true) : colM n I room wrap = (linC (outS I) room wrap n).m := by unfold colM; rw [goodC_true.2 ⟨h, hr⟩]; rfl
/-- the cells of an item that is but long -/
def sameD (z : Int) : Array Value := #[.int .i64 z, .int .i64 0, .int .i64 1073741824, .int .i64 0, .int .i64 0, .int .i64 0]
set_option maxRecDepth 20000 in
set_option maxHeartbeats 4000000 in
theorem flexSame_main (size many room z r f d : Int) (k : Nat) (hz : 1 + bits .and .i64 size 255 = z) (hz1 : 1 ≤ z) (hz2 : z ≤ 256) (hkk : bits .and .i64 many 31 = (k : Nat)) (hk2 : k ≤ 31) (hr : 1 + bits .and .i64 room 2047 = r) (hr1 : 1 ≤ r) (hr2 : r ≤ 2048)
    (hf : fitS r z = f) (hd : r / z = d) (hd0 : 0 ≤ d) (hd1 : d ≤ 2048) (hfd : 1 < d ∧ f = d ∨ d ≤ 1 ∧ f = 1) (w : World) :
    Calls Try.prog 9 #[.int .i64 size, .int .i64 many, .int .i64 room] w fun e w' => e = .returned (.bool true) ∧ Kept w w' := by
  have hall := same_all (O := outS (itemOf (plainZ fun _ => z))) (r := r) (n := k) hz1 (fun i _ => plain_wish (by show 0 ≤ z; omega) (by show z ≤ 1073741824; omega))
  rw [hf] at hall
  have hmay : mayI k (itemOf (plainZ fun _ => z)) = true := mayI_true.2 ⟨by omega, plain_may (fun _ => ⟨by show 0 ≤ z; omega, by show z ≤ 4194304; omega⟩) k⟩
  have hroom : inB 0 4194304 r = true := inB_true.2 (by omega)
  obtain ⟨M, hM⟩ : ∃ M, (linC (outS (itemOf (plainZ fun _ => z))) r true k).m = M := ⟨_, rfl⟩
  obtain ⟨Y, hY⟩ : ∃ Y, (linC (outS (itemOf (plainZ fun _ => z))) r true k).Z = Y := ⟨_, rfl⟩
  have hMk : M ≤ k := by rw [← hM]; exact (linC_m _ _ _ k).1
  rw [hM, hY] at hall
  obtain ⟨hcount, hin, hfull⟩ := hall
  have HC := Lib.hid (fun wx v (hx : ItV wx v k (itemOf (plainZ fun _ => z))) => flexCollect_is v k _ r true wx hx (by omega) 0 M Y (colE_ok hmay hroom) ((colM_ok hmay hroom).trans hM) (fun i _ => by rw [hY]))
  have HI := Lib.hid (And.intro hin hfull)
  have HN := Lib.hid hcount
  clear hin hfull hcount hmay hroom hM hY
  replace hf := Lib.hid hf
  have hmk := makeItems (k : Int) k (by omega) (by omega) (by simp)
  have hk : Kept w w := Kept.refl w
  go_enter Try.func9, Try.ntmps9
  go_wp2_with fail
  refine (awake19_any _).mono ?_
  rintro e w1 ⟨rfl, hn⟩
  replace hk := hk.trans hn
  clear hn
  have hsz0 := hk.size
  go_wp2
  refine code_boxes1 ?_
  intro X hX m
  have hsz := hk.size
  replace hk := hk.trans hX
  clear hX
  obtain ⟨G, hG⟩ : ∃ G, w1.heap.size = G := ⟨_, rfl⟩
  rw [hG] at m ⊢
  have hGw : w.heap.size ≤ G := by omega
  clear hmk hsz0 hG
  go_loopw [11] (fun i wx => ∃ (j : Nat) (cur : Array Value), j ≤ k ∧ i = .int .i64 j ∧ Kept w wx ∧ Own wx G 56 cur ∧ cur.size = k * 6 ∧ Filled cur 6 (intC (plainZ fun _ => z)) j) (fun i _ => k - (intOf i).toNat)
  case atStart => exact ⟨0, _, Nat.zero_le _, rfl, hk, m, size_madeCells _ _, fun i j hi => by omega⟩
  case round =>
    clear hk m
    obtain ⟨j, cur, hj, rfl, hk, ho, hsz, hfill⟩ := hrel
    have Hsz := Lib.hid hsz
    have Hfl := Lib.hid hfill
    clear hsz hfill
    by_cases hlt : j < k
    · go_wp2_with (refine here_store 56 _ _ rfl ?_; refine wpList_store_part rfl 56 _ _ rfl G (j * 6) (sameD z) rfl rfl ho (by rw [Hsz.out]; show j * 6 + 6 ≤ k * 6; omega) (by kernel_rfl) (by rfl) ?_; intro X oX hoX hkX; replace hk := hkX _ hk hGw; clear hoX hkX ho)
      go_roundw
      case rel => exact ⟨j + 1, _, by omega, by go_num, hk, oX, by rw [laidOn_size, Hsz.out], Hfl.out.next hlt Hsz.out rfl⟩
      case measure => simp [intOf]; omega
    · obtain rfl : j = k := by omega
      have hiv : ItV wr (.slice (some ⟨G, 0, none⟩) j j) j (itemOf (plainZ fun _ => z)) := by
        rcases Nat.eq_zero_or_pos j with h0 | hp
        · exact .inl ⟨_, _, by rw [h0], h0⟩
        · exact itv_row (.inr ⟨G, 0, j, rfl, hp, Nat.le_refl _, rowAt_own ho Hfl.out⟩)
      clear ho Hfl Hsz
      go_wp2_with fail
      refine (HC.out _ _ hiv).mono ?_
      rintro e w1 ⟨u, rfl, hu, hn⟩
      replace hk := hk.trans hn
      replace hiv := hiv.kept hn
      clear hn
      clear HC hiv
      have hiv2 := hu.iv
      obtain ⟨uo, uc, rfl⟩ := hiv2.shape
      have hcell : ∀ p, p < M → ∃ g o, uo = some ⟨g, o, none⟩ ∧ w1.cell? ⟨g, o + p, none⟩ = some (.int .i64 (Y p)) := fun p hp => by
        rcases hiv2 with ⟨h0, _⟩ | ⟨g, o, c, hv, _, _, hz⟩
        · omega
        · injection hv with e1 e2 e3
          exact ⟨g, o, e1, hz p hp⟩
      clear hiv2 hu
      have hkw0 := hk
      rcases hfd with ⟨hd2, rfl⟩ | ⟨hd2, rfl⟩
      · have hN : ((j : Int) + f - 1) / f = (M : Int) := HN.out.symm
        clear HN
        go_wp2_with fail
        refine (num_any _ _).mono ?_
        rintro e w1 ⟨rfl, rfl⟩
        go_wp2
        clear hk hN
        have hkw := Lib.hid hkw0
        clear hkw0
        go_loop [15] (fun i => ∃ p : Nat, p ≤ M ∧ i = .int .i64 p) (fun i => M - (intOf i).toNat)
        case atStart => exact ⟨0, Nat.zero_le _, rfl⟩
        case round =>
          obtain ⟨p, hp, rfl⟩ := hrel
          by_cases hl : p < M
          · obtain ⟨y1, y2⟩ := HI.out.1 p hl
            obtain ⟨g, o, rfl, c0⟩ := hcell p hl
            clear hcell
            have hpi : (p : Int) < (M : Int) := by omega
            by_cases hq : p + 1 < M
            · have y3 := HI.out.2 p hq
              rw [y3] at c0
              clear y1 y2 y3
              have hqi : (p : Int) < (M : Int) - 1 := by omega
              go_wp2
              go_round
              case rel => exact ⟨p + 1, by omega, by go_num⟩
              case measure => simp [intOf]; omega
            · have hqi : ¬ (p : Int) < (M : Int) - 1 := by omega
              have hqi2 : (M : Int) - 1 ≤ (p : Int) := by omega
              generalize Y p = y at *
              go_wp2
              go_round
              case rel => exact ⟨p + 1, by omega, by go_num⟩
              case measure => simp [intOf]; omega
          · obtain rfl : p = M := by omega
            go_wp2
            go_ret
            exact ⟨rfl, hkw.out⟩
      · have hN : M = j := by have := HN.out; omega
        clear HN
        subst hN
        go_wp2_with fail
        refine (num_any _ _).mono ?_
        rintro e w1 ⟨rfl, rfl⟩
        go_wp2
        clear hk
        have hkw := Lib.hid hkw0
        clear hkw0
        go_loop [15] (fun i => ∃ p : Nat, p ≤ M ∧ i = .int .i64 p) (fun i => M - (intOf i).toNat)
        case atStart => exact ⟨0, Nat.zero_le _, rfl⟩
        case round =>
          obtain ⟨p, hp, rfl⟩ := hrel
          by_cases hl : p < M
          · obtain ⟨y1, y2⟩ := HI.out.1 p hl
            obtain ⟨g, o, rfl, c0⟩ := hcell p hl
            clear hcell
            have hpi : (p : Int) < (M : Int) := by omega
            by_cases hq : p + 1 < M
            · have y3 := HI.out.2 p hq
              rw [y3] at c0
              clear y1 y2 y3
              have hqi : (p : Int) < (M : Int) - 1 := by omega
              go_wp2
              go_round
              case rel => exact ⟨p + 1, by omega, by go_num⟩
              case measure => simp [intOf]; omega
            · have hqi : ¬ (p : Int) < (M : Int) - 1 := by omega
              have hqi2 : (M : Int) - 1 ≤ (p : Int) := by omega
              generalize Y p = y at *
              go_wp2
              go_round
              case rel => exact ⟨p + 1, by omega, by go_num⟩
              case measure => simp [intOf]; omega
          · obtain rfl : p = M := by omega
            go_wp2
            go_ret
            exact ⟨rfl, hkw.out⟩
theorem flexSame_walk (size many room : Int) (w : World) :
    Calls Try.prog 9 #[.int .i64 size, .int .i64 many, .int .i64 room] w fun e w' => e = .returned (.bool true) ∧ Kept w w' := by
  obtain ⟨a, ha, a0, a1⟩ := masked size 8 255 (by decide) (by decide)
  obtain ⟨b, hb, b0, b1⟩ := masked many 5 31 (by decide) (by decide)
  obtain ⟨c, hc, c0, c1⟩ := masked room 11 2047 (by decide) (by decide)
  obtain ⟨k, rfl⟩ := Int.eq_ofNat_of_zero_le b0
  have hd0 : 0 ≤ (1 + c) / (1 + a) := Int.ediv_nonneg (by omega) (by omega)
  have hd1 : (1 + c) / (1 + a) ≤ 2048 := by
    have := Int.ediv_le_self (a := 1 + c) (1 + a) (by omega)
    omega
  exact flexSame_main size many room (1 + a) (1 + c) (fitS (1 + c) (1 + a)) ((1 + c) / (1 + a)) k (by rw [ha]) (by omega) (by omega) hb (by omega) (by rw [hc]) (by omega) (by omega) rfl rfl hd0 hd1 (by unfold fitS; omega) w
end Go.Proofs.Ytpjppnomfponfaa
