/- Layer 10: declarations of unlike properties may stand in any row: the walk. -/
import Derived.Test.YtnbagilcbngdcaaDoorOrder10S
import Derived.Test.YtnbagilcbngdcaaDoorMask
import Derived.Test.YtnbagilcbngdcaaDoorMarg
import Derived.Test.YtnbagilcbngdcaaDoorShape
import Derived.Test.YtnbagilcbngdcaaDoorDecimal
namespace Go.Proofs.YtnbagilcbngdcaaDoor
open Go.RowKit Go.Deep
set_option linter.unusedSimpArgs false
set_option linter.unusedVariables false
set_option maxHeartbeats 16000000
set_option maxRecDepth 20000
def vO (Z : Nat → Int) (i : Nat) : Nat := (bits .and .i64 (Z i) 63).toNat
theorem vO_is (Z : Nat → Int) (i : Nat) : bits .and .i64 (Z i) 63 = (vO Z i : Int) ∧ vO Z i ≤ 63 := by
  obtain ⟨q, hq, q0, q1⟩ := masked (Z i) 6 63 rfl (by decide)
  unfold vO
  rw [hq]
  omega
def tO (Z : Nat → Int) (i : Nat) : ByteArray := ⟨(Lib.decDigits (vO Z i)).toArray⟩
theorem flat_oneD (P : Nat → Int) (T : Nat → ByteArray) (n : Nat) : flat 2 (declC P T) n ++ [.int .i64 (P n), .string (T n)] = flat 2 (declC P T) (n + 1) := by
  show _ = flat 2 (declC P T) n ++ [declC P T n 0, declC P T n 1]
  unfold declC
  simp
theorem props_ok {P : Nat → Int} : ∀ {n : Nat}, (∀ i, i < n → inB 0 28 (P i) = true) → propsB P n = true := by
  intro n
  induction n with
  | zero => exact fun _ => rfl
  | succ n ih =>
    intro h
    unfold propsB
    rw [ih fun i hi => h i (by omega), h n (by omega)]
    rfl
theorem oP_in (i : Nat) (hi : i < 12) : inB 0 28 (oP i) = true := by
  have : ∀ i, i < 12 → inB 0 28 (oP i) = true := by decide
  exact this i hi
theorem order_apply (wm di : Int) (Z : Nat → Int) (N r : Nat) (hN : N ≤ 12) (hr : N = 0 ∨ r < N) :
    applyS wm di N (fun i => oP ((i + r) % N)) (fun i => tO Z ((i + r) % N)) = applyS wm di N oP (tO Z) := by
  unfold applyS
  have hp1 : propsB oP N = true := props_ok fun i hi => oP_in i (by omega)
  have hp2 : propsB (fun i => oP ((i + r) % N)) N = true := props_ok fun i hi => oP_in _ (Nat.lt_of_lt_of_le (Nat.mod_lt _ (by omega)) hN)
  have e : declsB wm di N (fun i => oP ((i + r) % N)) = declsB wm di N oP := by unfold declsB; rw [hp1, hp2]
  rw [e]
  cases hd : declsB wm di N oP with
  | false => rw [if_neg (by decide), if_neg (by decide)]
  | true =>
    rw [if_pos rfl, if_pos rfl]
    have hm : modeMayB wm di = true := by unfold declsB at hd; rw [Bool.and_eq_true, Bool.and_eq_true] at hd; exact hd.1.1
    rcases hr with rfl | hr
    · have e1 : appS wm di (fun i => oP ((i + r) % 0)) (fun i => tO Z ((i + r) % 0)) 0 = newS := rfl
      have e2 : appS wm di oP (tO Z) 0 = newS := rfl
      rw [e1, e2]
    · have := order_same hm (V := vO Z) (fun i => (vO_is Z i).2) N r hN hr
      exact congrArg (fun z => (z, (0 : Int))) this.symm
theorem cascadeOrder_main (wm di tn : Int) (sl : Option Addr) (n cap N r : Nat) (Z : Nat → Int) (w : World) (hv : IV w (.slice sl n cap) n Z) (hN : N = if n < 12 then n else 12) (hn : n ≤ 4611686018427387904) (hr : N = 0 ∨ (r < N ∧ (IntKind.u64.wrap tn).tmod (N : Int) = (r : Int))) (ht : TabN w) (hp : Pow w) :
    Calls Tryd.prog 10 #[modeV wm di, .slice sl n cap, .int .i64 tn] w fun e w' => e = .returned (.bool true) ∧ Kept w w' := by
  obtain ⟨i0, hi, hz0, hz1, hz2⟩ := info_parts declsInfo
  have hq := fun (s : Sty) (w : World) => eql_sty s w
  have hN12 : N ≤ 12 := by rw [hN]; split <;> omega
  have hNn : N ≤ n := by rw [hN]; split <;> omega
  have hNx : ¬ N < 12 → N = 12 := by omega
  have hNy : N < 12 → N = n := by rw [hN]; split <;> omega
  obtain ⟨S, E, h1⟩ : ∃ S E, applyS wm di N oP (tO Z) = (S, E) := ⟨_, _, rfl⟩
  have h2 : applyS wm di N (fun i => oP ((i + r) % N)) (fun i => tO Z ((i + r) % N)) = (S, E) := by rw [← h1]; exact order_apply wm di Z N r hN12 (by rcases hr with h | h; exact .inl h; exact .inr h.1)
  have hsz : ∀ i, (tO Z i).size ≤ 140737488355328 := fun i => by have := dec_size10 (vO Z i) (by have := (vO_is Z i).2; omega); unfold tO; omega
  have H1 := Lib.hid (fun wx v (hx : RV 2 wx v N (declC oP (tO Z))) (hy : TabN wx) (hz : Pow wx) => apply_is wm di v N oP (tO Z) S E wx hx (by omega) hy hz (fun i _ => hsz i) h1)
  have H2 := Lib.hid (fun wx v (hx : RV 2 wx v N (declC (fun i => oP ((i + r) % N)) (fun i => tO Z ((i + r) % N)))) (hy : TabN wx) (hz : Pow wx) => apply_is wm di v N _ _ S E wx hx (by omega) hy hz (fun i _ => hsz _) h2)
  have HDD := Lib.hid (fun k wx => decimal_any (vO Z k) (by have := (vO_is Z k).2; omega) wx)
  have HVV := Lib.hid (fun k => (vO_is Z k).1)
  have HSZ := Lib.hid (fun k => dec_size10 (vO Z k) (by have := (vO_is Z k).2; omega))
  have HV := Lib.hid hv
  have HNX := Lib.hid (And.intro hNx hNy)
  have HR := Lib.hid hr
  clear h1 h2 hsz hv hN hNx hNy hr
  have hk : Kept w w := Kept.refl w
  go_enter Tryd.func10, Tryd.ntmps10
  go_wp2_with fail
  refine with_boxes1 ?_
  intro X hX m
  have hsz := hk.size
  replace hk := hk.trans hX
  clear hX
  replace m_l := m.lt
  replace m_0 := m.at 0 _ rfl
  replace m_1 := m.at 1 _ rfl
  refine (awake10_any _ (ht.kept hk) (hp.kept hk)).mono ?_
  rintro e w1 ⟨rfl, hn⟩
  replace hk := hk.trans hn
  replace m := m.kept hn
  clear hn
  replace m_l := m.lt
  replace m_0 := m.at 0 _ rfl
  replace m_1 := m.at 1 _ rfl
  obtain ⟨W0, hW0⟩ : ∃ z, z = w1 := ⟨_, rfl⟩
  rw [← hW0] at hk m ⊢
  clear hW0 m_l m_0 m_1
  have hk0 := Lib.hid hk
  have m0 := Lib.hid m
  clear hk m
  go_wp2_with fail
  go_loopw [7, 9] (fun v i wx => ∃ k : Nat, k ≤ N ∧ i = .int .i64 k ∧ OR wx W0.heap.size 53 2 v k (flat 2 (declC oP (tO Z)) k) ∧ Kept W0 wx) (fun _ i _ => N - (intOf i).toNat)
  case atStart => exact ⟨0, Nat.zero_le _, rfl, ⟨World.ownsRow_nil _ _ _ _⟩, Kept.refl _⟩
  case round =>
    obtain ⟨k, hkN, rfl, ho, kX⟩ := hrel
    have hk := hk0.out.trans kX
    by_cases hlt : k < N
    · have hi1 : (k : Int) < (n : Int) := by omega
      have hi2 : (k : Int) < 12 := by omega
      obtain ⟨b, off, rfl, hle, hrow⟩ : ∃ b off, sl = some ⟨b, off, none⟩ ∧ n ≤ cap ∧ IntsAt w b off n Z := by
        rcases HV.out with ⟨h0, _⟩ | ⟨b, off, c, hv, _, h3, h4⟩
        · omega
        · injection hv with e1 e2 e3
          subst e1 e3
          exact ⟨b, off, rfl, h3, h4⟩
      have hkn : k < n := by omega
      have cz : wr.cell? ⟨b, off + k, none⟩ = some (.int .i64 (Z k)) := (hk.cell (World.block_lt_of_cell? w _ (hrow k hkn))).trans (hrow k hkn)
      have hbl := World.block_lt_of_cell? _ _ cz
      have hv63 := HVV.out k
      have HFL := Lib.hid (flat_oneD oP (tO Z) k)
      have HD := Lib.hid (HDD.out k)
      have hD21 := HSZ.out k
      rw [show tO Z k = ⟨(Lib.decDigits (vO Z k)).toArray⟩ from rfl] at HFL
      generalize (⟨(Lib.decDigits (vO Z k)).toArray⟩ : ByteArray) = D at *
      generalize Z k = z at *
      generalize vO Z k = q at *
      have hs : Since W0 wr := ⟨kX⟩
      have hsz3 := kX.size
      clear kX hrow
      have hoff : off + 0 = off := rfl
      rcases (by omega : k = 0 ∨ k = 1 ∨ k = 2 ∨ k = 3 ∨ k = 4 ∨ k = 5 ∨ k = 6 ∨ k = 7 ∨ k = 8 ∨ k = 9 ∨ k = 10 ∨ k = 11) with rfl | rfl | rfl | rfl | rfl | rfl | rfl | rfl | rfl | rfl | rfl | rfl
      · skip
        rw [Nat.add_zero] at cz
        go_wp2_with fail
        refine with_boxes1 ?_
        intro X hX B0
        have hsz := hk.size
        replace hk := hk.trans hX
        replace ho := ho.kept hX
        replace hs := hs.kept hX
        clear hX B0
        refine (HD.out _).mono ?_
        rintro e w1 ⟨rfl, hn⟩
        replace hk := hk.trans hn
        replace ho := ho.kept hn
        replace hs := hs.kept hn
        clear hn
        have kX := hs.k
        have hle := kX.size
        go_wp2_with (at_builtin; refine wpList_append_own _ rfl _ _ 39 rfl W0.heap.size 53 i0 (.agg #[.int .i64 0, .string ⟨#[]⟩]) 2 24 Tryd.underlying39 hi hz0 hz1 hz2 rfl (by decide) _ _ _ rfl (ho.own.alloc _) ⟨w1.heap.size, 0, none⟩ 1 1 [.int .i64 0, .string D] rfl rfl (lit_cells w1 #[.int .i64 0, .string D] 53) (by simp [Value.oneCell']) (by unfold maxLen; omega) (by omega) (by simp; omega) ?_; intro v2 w2 hown2 hg2 _)
        have kX2 := (kX.alloc _).grown hg2 (row_ge ho.own)
        exact ⟨⟨1, by omega, by first | rfl | go_num, ⟨by rw [← HFL.out]; exact hown2⟩, kX2⟩, by first | (simp [intOf]; done) | (simp [intOf]; omega)⟩
      · skip
        go_wp2_with fail
        refine with_boxes1 ?_
        intro X hX B0
        have hsz := hk.size
        replace hk := hk.trans hX
        replace ho := ho.kept hX
        replace hs := hs.kept hX
        clear hX B0
        refine (HD.out _).mono ?_
        rintro e w1 ⟨rfl, hn⟩
        replace hk := hk.trans hn
        replace ho := ho.kept hn
        replace hs := hs.kept hn
        clear hn
        have kX := hs.k
        have hle := kX.size
        go_wp2_with (at_builtin; refine wpList_append_own _ rfl _ _ 39 rfl W0.heap.size 53 i0 (.agg #[.int .i64 0, .string ⟨#[]⟩]) 2 24 Tryd.underlying39 hi hz0 hz1 hz2 rfl (by decide) _ _ _ rfl (ho.own.alloc _) ⟨w1.heap.size, 0, none⟩ 1 1 [.int .i64 1, .string D] rfl rfl (lit_cells w1 #[.int .i64 1, .string D] 53) (by simp [Value.oneCell']) (by unfold maxLen; omega) (by omega) (by simp; omega) ?_; intro v2 w2 hown2 hg2 _)
        have kX2 := (kX.alloc _).grown hg2 (row_ge ho.own)
        exact ⟨⟨2, by omega, by first | rfl | go_num, ⟨by rw [← HFL.out]; exact hown2⟩, kX2⟩, by first | (simp [intOf]; done) | (simp [intOf]; omega)⟩
      · skip
        go_wp2_with fail
        refine with_boxes1 ?_
        intro X hX B0
        have hsz := hk.size
        replace hk := hk.trans hX
        replace ho := ho.kept hX
        replace hs := hs.kept hX
        clear hX B0
        refine (HD.out _).mono ?_
        rintro e w1 ⟨rfl, hn⟩
        replace hk := hk.trans hn
        replace ho := ho.kept hn
        replace hs := hs.kept hn
        clear hn
        have kX := hs.k
        have hle := kX.size
        go_wp2_with (at_builtin; refine wpList_append_own _ rfl _ _ 39 rfl W0.heap.size 53 i0 (.agg #[.int .i64 0, .string ⟨#[]⟩]) 2 24 Tryd.underlying39 hi hz0 hz1 hz2 rfl (by decide) _ _ _ rfl (ho.own.alloc _) ⟨w1.heap.size, 0, none⟩ 1 1 [.int .i64 4, .string D] rfl rfl (lit_cells w1 #[.int .i64 4, .string D] 53) (by simp [Value.oneCell']) (by unfold maxLen; omega) (by omega) (by simp; omega) ?_; intro v2 w2 hown2 hg2 _)
        have kX2 := (kX.alloc _).grown hg2 (row_ge ho.own)
        exact ⟨⟨3, by omega, by first | rfl | go_num, ⟨by rw [← HFL.out]; exact hown2⟩, kX2⟩, by first | (simp [intOf]; done) | (simp [intOf]; omega)⟩
      · skip
        go_wp2_with fail
        refine with_boxes1 ?_
        intro X hX B0
        have hsz := hk.size
        replace hk := hk.trans hX
        replace ho := ho.kept hX
        replace hs := hs.kept hX
        clear hX B0
        refine (HD.out _).mono ?_
        rintro e w1 ⟨rfl, hn⟩
        replace hk := hk.trans hn
        replace ho := ho.kept hn
        replace hs := hs.kept hn
        clear hn
        have kX := hs.k
        have hle := kX.size
        go_wp2_with (at_builtin; refine wpList_append_own _ rfl _ _ 39 rfl W0.heap.size 53 i0 (.agg #[.int .i64 0, .string ⟨#[]⟩]) 2 24 Tryd.underlying39 hi hz0 hz1 hz2 rfl (by decide) _ _ _ rfl (ho.own.alloc _) ⟨w1.heap.size, 0, none⟩ 1 1 [.int .i64 5, .string D] rfl rfl (lit_cells w1 #[.int .i64 5, .string D] 53) (by simp [Value.oneCell']) (by unfold maxLen; omega) (by omega) (by simp; omega) ?_; intro v2 w2 hown2 hg2 _)
        have kX2 := (kX.alloc _).grown hg2 (row_ge ho.own)
        exact ⟨⟨4, by omega, by first | rfl | go_num, ⟨by rw [← HFL.out]; exact hown2⟩, kX2⟩, by first | (simp [intOf]; done) | (simp [intOf]; omega)⟩
      · skip
        go_wp2_with fail
        refine with_boxes1 ?_
        intro X hX B0
        have hsz := hk.size
        replace hk := hk.trans hX
        replace ho := ho.kept hX
        replace hs := hs.kept hX
        clear hX B0
        refine (HD.out _).mono ?_
        rintro e w1 ⟨rfl, hn⟩
        replace hk := hk.trans hn
        replace ho := ho.kept hn
        replace hs := hs.kept hn
        clear hn
        have kX := hs.k
        have hle := kX.size
        go_wp2_with (at_builtin; refine wpList_append_own _ rfl _ _ 39 rfl W0.heap.size 53 i0 (.agg #[.int .i64 0, .string ⟨#[]⟩]) 2 24 Tryd.underlying39 hi hz0 hz1 hz2 rfl (by decide) _ _ _ rfl (ho.own.alloc _) ⟨w1.heap.size, 0, none⟩ 1 1 [.int .i64 10, .string D] rfl rfl (lit_cells w1 #[.int .i64 10, .string D] 53) (by simp [Value.oneCell']) (by unfold maxLen; omega) (by omega) (by simp; omega) ?_; intro v2 w2 hown2 hg2 _)
        have kX2 := (kX.alloc _).grown hg2 (row_ge ho.own)
        exact ⟨⟨5, by omega, by first | rfl | go_num, ⟨by rw [← HFL.out]; exact hown2⟩, kX2⟩, by first | (simp [intOf]; done) | (simp [intOf]; omega)⟩
      · skip
        go_wp2_with fail
        refine with_boxes1 ?_
        intro X hX B0
        have hsz := hk.size
        replace hk := hk.trans hX
        replace ho := ho.kept hX
        replace hs := hs.kept hX
        clear hX B0
        refine (HD.out _).mono ?_
        rintro e w1 ⟨rfl, hn⟩
        replace hk := hk.trans hn
        replace ho := ho.kept hn
        replace hs := hs.kept hn
        clear hn
        have kX := hs.k
        have hle := kX.size
        go_wp2_with (at_builtin; refine wpList_append_own _ rfl _ _ 39 rfl W0.heap.size 53 i0 (.agg #[.int .i64 0, .string ⟨#[]⟩]) 2 24 Tryd.underlying39 hi hz0 hz1 hz2 rfl (by decide) _ _ _ rfl (ho.own.alloc _) ⟨w1.heap.size, 0, none⟩ 1 1 [.int .i64 11, .string D] rfl rfl (lit_cells w1 #[.int .i64 11, .string D] 53) (by simp [Value.oneCell']) (by unfold maxLen; omega) (by omega) (by simp; omega) ?_; intro v2 w2 hown2 hg2 _)
        have kX2 := (kX.alloc _).grown hg2 (row_ge ho.own)
        exact ⟨⟨6, by omega, by first | rfl | go_num, ⟨by rw [← HFL.out]; exact hown2⟩, kX2⟩, by first | (simp [intOf]; done) | (simp [intOf]; omega)⟩
      · skip
        go_wp2_with fail
        refine with_boxes1 ?_
        intro X hX B0
        have hsz := hk.size
        replace hk := hk.trans hX
        replace ho := ho.kept hX
        replace hs := hs.kept hX
        clear hX B0
        refine (HD.out _).mono ?_
        rintro e w1 ⟨rfl, hn⟩
        replace hk := hk.trans hn
        replace ho := ho.kept hn
        replace hs := hs.kept hn
        clear hn
        have kX := hs.k
        have hle := kX.size
        go_wp2_with (at_builtin; refine wpList_append_own _ rfl _ _ 39 rfl W0.heap.size 53 i0 (.agg #[.int .i64 0, .string ⟨#[]⟩]) 2 24 Tryd.underlying39 hi hz0 hz1 hz2 rfl (by decide) _ _ _ rfl (ho.own.alloc _) ⟨w1.heap.size, 0, none⟩ 1 1 [.int .i64 12, .string D] rfl rfl (lit_cells w1 #[.int .i64 12, .string D] 53) (by simp [Value.oneCell']) (by unfold maxLen; omega) (by omega) (by simp; omega) ?_; intro v2 w2 hown2 hg2 _)
        have kX2 := (kX.alloc _).grown hg2 (row_ge ho.own)
        exact ⟨⟨7, by omega, by first | rfl | go_num, ⟨by rw [← HFL.out]; exact hown2⟩, kX2⟩, by first | (simp [intOf]; done) | (simp [intOf]; omega)⟩
      · skip
        go_wp2_with fail
        refine with_boxes1 ?_
        intro X hX B0
        have hsz := hk.size
        replace hk := hk.trans hX
        replace ho := ho.kept hX
        replace hs := hs.kept hX
        clear hX B0
        refine (HD.out _).mono ?_
        rintro e w1 ⟨rfl, hn⟩
        replace hk := hk.trans hn
        replace ho := ho.kept hn
        replace hs := hs.kept hn
        clear hn
        have kX := hs.k
        have hle := kX.size
        go_wp2_with (at_builtin; refine wpList_append_own _ rfl _ _ 39 rfl W0.heap.size 53 i0 (.agg #[.int .i64 0, .string ⟨#[]⟩]) 2 24 Tryd.underlying39 hi hz0 hz1 hz2 rfl (by decide) _ _ _ rfl (ho.own.alloc _) ⟨w1.heap.size, 0, none⟩ 1 1 [.int .i64 13, .string D] rfl rfl (lit_cells w1 #[.int .i64 13, .string D] 53) (by simp [Value.oneCell']) (by unfold maxLen; omega) (by omega) (by simp; omega) ?_; intro v2 w2 hown2 hg2 _)
        have kX2 := (kX.alloc _).grown hg2 (row_ge ho.own)
        exact ⟨⟨8, by omega, by first | rfl | go_num, ⟨by rw [← HFL.out]; exact hown2⟩, kX2⟩, by first | (simp [intOf]; done) | (simp [intOf]; omega)⟩
      · skip
        go_wp2_with fail
        refine with_boxes1 ?_
        intro X hX B0
        have hsz := hk.size
        replace hk := hk.trans hX
        replace ho := ho.kept hX
        replace hs := hs.kept hX
        clear hX B0
        refine (HD.out _).mono ?_
        rintro e w1 ⟨rfl, hn⟩
        replace hk := hk.trans hn
        replace ho := ho.kept hn
        replace hs := hs.kept hn
        clear hn
        have kX := hs.k
        have hle := kX.size
        go_wp2_with (at_builtin; refine wpList_append_own _ rfl _ _ 39 rfl W0.heap.size 53 i0 (.agg #[.int .i64 0, .string ⟨#[]⟩]) 2 24 Tryd.underlying39 hi hz0 hz1 hz2 rfl (by decide) _ _ _ rfl (ho.own.alloc _) ⟨w1.heap.size, 0, none⟩ 1 1 [.int .i64 18, .string D] rfl rfl (lit_cells w1 #[.int .i64 18, .string D] 53) (by simp [Value.oneCell']) (by unfold maxLen; omega) (by omega) (by simp; omega) ?_; intro v2 w2 hown2 hg2 _)
        have kX2 := (kX.alloc _).grown hg2 (row_ge ho.own)
        exact ⟨⟨9, by omega, by first | rfl | go_num, ⟨by rw [← HFL.out]; exact hown2⟩, kX2⟩, by first | (simp [intOf]; done) | (simp [intOf]; omega)⟩
      · skip
        go_wp2_with fail
        refine with_boxes1 ?_
        intro X hX B0
        have hsz := hk.size
        replace hk := hk.trans hX
        replace ho := ho.kept hX
        replace hs := hs.kept hX
        clear hX B0
        refine (HD.out _).mono ?_
        rintro e w1 ⟨rfl, hn⟩
        replace hk := hk.trans hn
        replace ho := ho.kept hn
        replace hs := hs.kept hn
        clear hn
        have kX := hs.k
        have hle := kX.size
        go_wp2_with (at_builtin; refine wpList_append_own _ rfl _ _ 39 rfl W0.heap.size 53 i0 (.agg #[.int .i64 0, .string ⟨#[]⟩]) 2 24 Tryd.underlying39 hi hz0 hz1 hz2 rfl (by decide) _ _ _ rfl (ho.own.alloc _) ⟨w1.heap.size, 0, none⟩ 1 1 [.int .i64 19, .string D] rfl rfl (lit_cells w1 #[.int .i64 19, .string D] 53) (by simp [Value.oneCell']) (by unfold maxLen; omega) (by omega) (by simp; omega) ?_; intro v2 w2 hown2 hg2 _)
        have kX2 := (kX.alloc _).grown hg2 (row_ge ho.own)
        exact ⟨⟨10, by omega, by first | rfl | go_num, ⟨by rw [← HFL.out]; exact hown2⟩, kX2⟩, by first | (simp [intOf]; done) | (simp [intOf]; omega)⟩
      · skip
        go_wp2_with fail
        refine with_boxes1 ?_
        intro X hX B0
        have hsz := hk.size
        replace hk := hk.trans hX
        replace ho := ho.kept hX
        replace hs := hs.kept hX
        clear hX B0
        refine (HD.out _).mono ?_
        rintro e w1 ⟨rfl, hn⟩
        replace hk := hk.trans hn
        replace ho := ho.kept hn
        replace hs := hs.kept hn
        clear hn
        have kX := hs.k
        have hle := kX.size
        go_wp2_with (at_builtin; refine wpList_append_own _ rfl _ _ 39 rfl W0.heap.size 53 i0 (.agg #[.int .i64 0, .string ⟨#[]⟩]) 2 24 Tryd.underlying39 hi hz0 hz1 hz2 rfl (by decide) _ _ _ rfl (ho.own.alloc _) ⟨w1.heap.size, 0, none⟩ 1 1 [.int .i64 22, .string D] rfl rfl (lit_cells w1 #[.int .i64 22, .string D] 53) (by simp [Value.oneCell']) (by unfold maxLen; omega) (by omega) (by simp; omega) ?_; intro v2 w2 hown2 hg2 _)
        have kX2 := (kX.alloc _).grown hg2 (row_ge ho.own)
        exact ⟨⟨11, by omega, by first | rfl | go_num, ⟨by rw [← HFL.out]; exact hown2⟩, kX2⟩, by first | (simp [intOf]; done) | (simp [intOf]; omega)⟩
      · skip
        go_wp2_with fail
        refine with_boxes1 ?_
        intro X hX B0
        have hsz := hk.size
        replace hk := hk.trans hX
        replace ho := ho.kept hX
        replace hs := hs.kept hX
        clear hX B0
        refine (HD.out _).mono ?_
        rintro e w1 ⟨rfl, hn⟩
        replace hk := hk.trans hn
        replace ho := ho.kept hn
        replace hs := hs.kept hn
        clear hn
        have kX := hs.k
        have hle := kX.size
        go_wp2_with (at_builtin; refine wpList_append_own _ rfl _ _ 39 rfl W0.heap.size 53 i0 (.agg #[.int .i64 0, .string ⟨#[]⟩]) 2 24 Tryd.underlying39 hi hz0 hz1 hz2 rfl (by decide) _ _ _ rfl (ho.own.alloc _) ⟨w1.heap.size, 0, none⟩ 1 1 [.int .i64 23, .string D] rfl rfl (lit_cells w1 #[.int .i64 23, .string D] 53) (by simp [Value.oneCell']) (by unfold maxLen; omega) (by omega) (by simp; omega) ?_; intro v2 w2 hown2 hg2 _)
        have kX2 := (kX.alloc _).grown hg2 (row_ge ho.own)
        exact ⟨⟨12, by omega, by first | rfl | go_num, ⟨by rw [← HFL.out]; exact hown2⟩, kX2⟩, by first | (simp [intOf]; done) | (simp [intOf]; omega)⟩
    · obtain rfl : k = N := by omega
      have HE : ((k : Int) < (n : Int) ∧ ¬ (k : Int) < 12) ∨ ¬ (k : Int) < (n : Int) := by
        by_cases h12 : k < 12
        · have := HNX.out.2 h12; omega
        · have := HNX.out.1 h12; omega
      obtain ⟨W1, hW1⟩ : ∃ z, z = wr := ⟨_, rfl⟩
      rw [← hW1] at ho kX hk ⊢
      clear hW1
      have HK1 := Lib.hid hk
      have m1 := Lib.hid (m0.out.kept kX)
      obtain ⟨o7, c7, rfl⟩ := row_len ho.own
      have hr7 : RV 2 W1 (.slice o7 k c7) k (declC oP (tO Z)) := by
        have h := newRow_of (ho.own)
        exact h.rv
      have HR7 := Lib.hid hr7
      clear ho kX hk hr7
      rcases HE with ⟨hi1, hi2⟩ | hi1
      · skip
        go_wp2_with fail
        go_loopw [8, 11] (fun v i wx => ∃ q : Nat, q ≤ k ∧ i = .int .i64 q ∧ OR wx W1.heap.size 53 2 v q (flat 2 (declC (fun i => oP ((i + r) % k)) (fun i => tO Z ((i + r) % k))) q) ∧ Kept W1 wx) (fun _ i _ => k - (intOf i).toNat)
        case atStart => exact ⟨0, Nat.zero_le _, rfl, ⟨World.ownsRow_nil _ _ _ _⟩, Kept.refl _⟩
        case round =>
          obtain ⟨q, hqk, rfl, ho2, kX⟩ := hrel
          have hk := HK1.out.trans kX
          by_cases hq2 : q < k
          · have hj1 : (q : Int) < (k : Int) := by omega
            obtain ⟨hrk, hrt⟩ : r < k ∧ (IntKind.u64.wrap tn).tmod (k : Int) = (r : Int) := by
              rcases HR.out with h | h
              · omega
              · exact h
            obtain ⟨b, off, rfl, hle, hrow⟩ := (HR7.out.kept kX).row (by omega)
            obtain ⟨j, hj⟩ : ∃ j, (q + r) % k = j := ⟨_, rfl⟩
            have hjk : j < k := by rw [← hj]; exact Nat.mod_lt _ (by omega)
            have c0 : wr.cell? ⟨b, off + j * 2, none⟩ = some (.int .i64 (oP j)) := hrow j 0 hjk (by decide)
            have c1 : wr.cell? ⟨b, off + j * 2 + 1, none⟩ = some (.string (tO Z j)) := hrow j 1 hjk (by decide)
            have w1 : IntKind.u64.wrap (k : Int) = k := by rw [IntKind.wrap_u64]; omega
            have w2 : IntKind.i64.wrap (r : Int) = r := by rw [IntKind.wrap_i64]; omega
            have w3 : IntKind.i64.wrap ((q : Int) + (r : Int)) = ((q + r : Nat) : Int) := by rw [IntKind.wrap_i64]; omega
            have w4 : ((q + r : Nat) : Int).tmod (k : Int) = (j : Int) := by rw [← hj]; rfl
            have w5 : ((q : Int) + (r : Int)).tmod (k : Int) = (j : Int) := by rw [← hj]; rfl
            have w6 : ((q : Int) + (r : Int)) % (k : Int) = (j : Int) := by rw [← hj]; rfl
            have w7 : (k == 0) = false := by simp; omega
            have w8 : ((k : Int) == 0) = false := by simp; omega
            have HFL := Lib.hid (flat_oneD (fun i => oP ((i + r) % k)) (fun i => tO Z ((i + r) % k)) q)
            have hle2 := kX.size
            clear hrow
            have HJ := Lib.hid hj
            clear hj
            go_wp2_with (at_builtin; refine wpList_append_own _ rfl _ _ 39 rfl W1.heap.size 53 i0 (.agg #[.int .i64 0, .string ⟨#[]⟩]) 2 24 Tryd.underlying39 hi hz0 hz1 hz2 rfl (by decide) _ _ _ rfl (ho2.own.alloc _) ⟨wr.heap.size, 0, none⟩ 1 1 [.int .i64 (oP j), .string (tO Z j)] rfl rfl (lit_cells wr #[.int .i64 (oP j), .string (tO Z j)] 53) (by simp [Value.oneCell']) (by unfold maxLen; omega) (by omega) (by simp; omega) ?_; intro v4 w4 hown4 hg4 _)
            have kX4 := (kX.alloc _).grown hg4 (row_ge ho2.own)
            have he := HFL.out
            rw [HJ.out] at he
            exact ⟨⟨q + 1, by omega, by first | rfl | go_num, ⟨by rw [← he]; exact hown4⟩, kX4⟩, by first | (simp [intOf]; done) | (simp [intOf]; omega)⟩
          · obtain rfl : q = k := by omega
            have m := m1.out.kept kX
            have hr7 := HR7.out.kept kX
            obtain ⟨o8, c8, rfl⟩ := row_len ho2.own
            have hr8 : RV 2 wr (.slice o8 q c8) q (declC (fun i => oP ((i + r) % q)) (fun i => tO Z ((i + r) % q))) := by
              have h := newRow_of (ho2.own)
              exact h.rv
            clear ho2 kX
            replace m_l := m.lt
            replace m_0 := m.at 0 _ rfl
            replace m_1 := m.at 1 _ rfl
            go_wp2_with fail
            refine (H1.out _ _ hr7 (ht.kept hk) (hp.kept hk)).mono ?_
            rintro e w1 ⟨rfl, hn⟩
            replace hk := hk.trans hn
            replace m := m.kept hn
            replace hr8 := hr8.kept hn
            clear hn
            replace m_l := m.lt
            replace m_0 := m.at 0 _ rfl
            replace m_1 := m.at 1 _ rfl
            clear hr7
            go_wp2_with (first | (refine here_store 42 _ _ rfl ?_; refine wpList_store_own rfl 42 _ _ rfl _ _ rfl rfl (Own.new _ _ _) (by rfl) (by kernel_rfl) (by rfl) ?_; intro X a hoX hkX; have hsz := hk.size; replace hk := hkX _ (hk.alloc _) (by first | omega | (simp; omega)); have m_l := m.lt; replace m := (m.alloc _).same (hoX _ (by first | omega | (simp; omega))); replace hr8 := hr8.kept (hkX _ ((Kept.refl _).alloc _) (by first | exact Nat.le_refl _ | (simp; done) | omega)); clear hoX hkX; replace m_l := m.lt; replace m_0 := m.at 0 _ rfl; replace m_1 := m.at 1 _ rfl))
            go_wp2_with fail
            refine (H2.out _ _ hr8 (ht.kept hk) (hp.kept hk)).mono ?_
            rintro e w1 ⟨rfl, hn⟩
            replace hk := hk.trans hn
            replace m := m.kept hn
            replace hr8 := hr8.kept hn
            replace a := a.kept hn
            clear hn
            replace m_l := m.lt
            replace m_0 := m.at 0 _ rfl
            replace m_1 := m.at 1 _ rfl
            clear hr8
            go_wp2_with (first | (refine here_store 42 _ _ rfl ?_; refine wpList_store_own rfl 42 _ _ rfl _ _ rfl rfl (Own.new _ _ _) (by rfl) (by kernel_rfl) (by rfl) ?_; intro X b hoX hkX; have hsz := hk.size; replace hk := hkX _ (hk.alloc _) (by first | omega | (simp; omega)); have m_l := m.lt; replace m := (m.alloc _).same (hoX _ (by first | omega | (simp; omega))); have a_l := a.lt; replace a := (a.alloc _).same (hoX _ (by first | omega | (simp; omega))); clear hoX hkX; replace m_l := m.lt; replace m_0 := m.at 0 _ rfl; replace m_1 := m.at 1 _ rfl))
            go_wp2_with fail
            refine (num_any _ _).mono ?_
            rintro e w1 ⟨rfl, rfl⟩
            go_wp2_with fail
            refine (num_any _ _).mono ?_
            rintro e w1 ⟨rfl, rfl⟩
            go_wp2_with (first | (refine here_load 42 _ rfl ?_; refine wpList_load_own_if 42 _ rfl (by rfl) _ rfl a _ Tryd.underlying42 rfl (by kernel_rfl) ?_) | (refine here_load 42 _ rfl ?_; refine wpList_load_own_if 42 _ rfl (by rfl) _ rfl b _ Tryd.underlying42 rfl (by kernel_rfl) ?_))
            go_ret
            exact ⟨rfl, hk⟩
      · skip
        go_wp2_with fail
        go_loopw [8, 11] (fun v i wx => ∃ q : Nat, q ≤ k ∧ i = .int .i64 q ∧ OR wx W1.heap.size 53 2 v q (flat 2 (declC (fun i => oP ((i + r) % k)) (fun i => tO Z ((i + r) % k))) q) ∧ Kept W1 wx) (fun _ i _ => k - (intOf i).toNat)
        case atStart => exact ⟨0, Nat.zero_le _, rfl, ⟨World.ownsRow_nil _ _ _ _⟩, Kept.refl _⟩
        case round =>
          obtain ⟨q, hqk, rfl, ho2, kX⟩ := hrel
          have hk := HK1.out.trans kX
          by_cases hq2 : q < k
          · have hj1 : (q : Int) < (k : Int) := by omega
            obtain ⟨hrk, hrt⟩ : r < k ∧ (IntKind.u64.wrap tn).tmod (k : Int) = (r : Int) := by
              rcases HR.out with h | h
              · omega
              · exact h
            obtain ⟨b, off, rfl, hle, hrow⟩ := (HR7.out.kept kX).row (by omega)
            obtain ⟨j, hj⟩ : ∃ j, (q + r) % k = j := ⟨_, rfl⟩
            have hjk : j < k := by rw [← hj]; exact Nat.mod_lt _ (by omega)
            have c0 : wr.cell? ⟨b, off + j * 2, none⟩ = some (.int .i64 (oP j)) := hrow j 0 hjk (by decide)
            have c1 : wr.cell? ⟨b, off + j * 2 + 1, none⟩ = some (.string (tO Z j)) := hrow j 1 hjk (by decide)
            have w1 : IntKind.u64.wrap (k : Int) = k := by rw [IntKind.wrap_u64]; omega
            have w2 : IntKind.i64.wrap (r : Int) = r := by rw [IntKind.wrap_i64]; omega
            have w3 : IntKind.i64.wrap ((q : Int) + (r : Int)) = ((q + r : Nat) : Int) := by rw [IntKind.wrap_i64]; omega
            have w4 : ((q + r : Nat) : Int).tmod (k : Int) = (j : Int) := by rw [← hj]; rfl
            have w5 : ((q : Int) + (r : Int)).tmod (k : Int) = (j : Int) := by rw [← hj]; rfl
            have w6 : ((q : Int) + (r : Int)) % (k : Int) = (j : Int) := by rw [← hj]; rfl
            have w7 : (k == 0) = false := by simp; omega
            have w8 : ((k : Int) == 0) = false := by simp; omega
            have HFL := Lib.hid (flat_oneD (fun i => oP ((i + r) % k)) (fun i => tO Z ((i + r) % k)) q)
            have hle2 := kX.size
            clear hrow
            have HJ := Lib.hid hj
            clear hj
            go_wp2_with (at_builtin; refine wpList_append_own _ rfl _ _ 39 rfl W1.heap.size 53 i0 (.agg #[.int .i64 0, .string ⟨#[]⟩]) 2 24 Tryd.underlying39 hi hz0 hz1 hz2 rfl (by decide) _ _ _ rfl (ho2.own.alloc _) ⟨wr.heap.size, 0, none⟩ 1 1 [.int .i64 (oP j), .string (tO Z j)] rfl rfl (lit_cells wr #[.int .i64 (oP j), .string (tO Z j)] 53) (by simp [Value.oneCell']) (by unfold maxLen; omega) (by omega) (by simp; omega) ?_; intro v4 w4 hown4 hg4 _)
            have kX4 := (kX.alloc _).grown hg4 (row_ge ho2.own)
            have he := HFL.out
            rw [HJ.out] at he
            exact ⟨⟨q + 1, by omega, by first | rfl | go_num, ⟨by rw [← he]; exact hown4⟩, kX4⟩, by first | (simp [intOf]; done) | (simp [intOf]; omega)⟩
          · obtain rfl : q = k := by omega
            have m := m1.out.kept kX
            have hr7 := HR7.out.kept kX
            obtain ⟨o8, c8, rfl⟩ := row_len ho2.own
            have hr8 : RV 2 wr (.slice o8 q c8) q (declC (fun i => oP ((i + r) % q)) (fun i => tO Z ((i + r) % q))) := by
              have h := newRow_of (ho2.own)
              exact h.rv
            clear ho2 kX
            replace m_l := m.lt
            replace m_0 := m.at 0 _ rfl
            replace m_1 := m.at 1 _ rfl
            go_wp2_with fail
            refine (H1.out _ _ hr7 (ht.kept hk) (hp.kept hk)).mono ?_
            rintro e w1 ⟨rfl, hn⟩
            replace hk := hk.trans hn
            replace m := m.kept hn
            replace hr8 := hr8.kept hn
            clear hn
            replace m_l := m.lt
            replace m_0 := m.at 0 _ rfl
            replace m_1 := m.at 1 _ rfl
            clear hr7
            go_wp2_with (first | (refine here_store 42 _ _ rfl ?_; refine wpList_store_own rfl 42 _ _ rfl _ _ rfl rfl (Own.new _ _ _) (by rfl) (by kernel_rfl) (by rfl) ?_; intro X a hoX hkX; have hsz := hk.size; replace hk := hkX _ (hk.alloc _) (by first | omega | (simp; omega)); have m_l := m.lt; replace m := (m.alloc _).same (hoX _ (by first | omega | (simp; omega))); replace hr8 := hr8.kept (hkX _ ((Kept.refl _).alloc _) (by first | exact Nat.le_refl _ | (simp; done) | omega)); clear hoX hkX; replace m_l := m.lt; replace m_0 := m.at 0 _ rfl; replace m_1 := m.at 1 _ rfl))
            go_wp2_with fail
            refine (H2.out _ _ hr8 (ht.kept hk) (hp.kept hk)).mono ?_
            rintro e w1 ⟨rfl, hn⟩
            replace hk := hk.trans hn
            replace m := m.kept hn
            replace hr8 := hr8.kept hn
            replace a := a.kept hn
            clear hn
            replace m_l := m.lt
            replace m_0 := m.at 0 _ rfl
            replace m_1 := m.at 1 _ rfl
            clear hr8
            go_wp2_with (first | (refine here_store 42 _ _ rfl ?_; refine wpList_store_own rfl 42 _ _ rfl _ _ rfl rfl (Own.new _ _ _) (by rfl) (by kernel_rfl) (by rfl) ?_; intro X b hoX hkX; have hsz := hk.size; replace hk := hkX _ (hk.alloc _) (by first | omega | (simp; omega)); have m_l := m.lt; replace m := (m.alloc _).same (hoX _ (by first | omega | (simp; omega))); have a_l := a.lt; replace a := (a.alloc _).same (hoX _ (by first | omega | (simp; omega))); clear hoX hkX; replace m_l := m.lt; replace m_0 := m.at 0 _ rfl; replace m_1 := m.at 1 _ rfl))
            go_wp2_with fail
            refine (num_any _ _).mono ?_
            rintro e w1 ⟨rfl, rfl⟩
            go_wp2_with fail
            refine (num_any _ _).mono ?_
            rintro e w1 ⟨rfl, rfl⟩
            go_wp2_with (first | (refine here_load 42 _ rfl ?_; refine wpList_load_own_if 42 _ rfl (by rfl) _ rfl a _ Tryd.underlying42 rfl (by kernel_rfl) ?_) | (refine here_load 42 _ rfl ?_; refine wpList_load_own_if 42 _ rfl (by rfl) _ rfl b _ Tryd.underlying42 rfl (by kernel_rfl) ?_))
            go_ret
            exact ⟨rfl, hk⟩
theorem cascadeOrder_walk (wm di : Int) (v : Value) (n : Nat) (Z : Nat → Int) (tn : Int) (w : World) (hv : IV w v n Z) (hn : n ≤ 17592186043904) (ht : TabN w) (hp : Pow w) :
    Calls Tryd.prog 10 #[modeV wm di, v, .int .i64 tn] w fun e w' => e = .returned (.bool true) ∧ Kept w w' := by
  obtain ⟨sl, cap, rfl⟩ := hv.shape
  obtain ⟨N, hN⟩ : ∃ N, N = if n < 12 then n else 12 := ⟨_, rfl⟩
  rcases Nat.eq_zero_or_pos N with h0 | h0
  · exact cascadeOrder_main wm di tn sl n cap N 0 Z w hv hN (by omega) (.inl h0) ht hp
  · obtain ⟨r, hr, r0, r1⟩ := urest2 tn (N : Int) (by omega)
    obtain ⟨r, rfl⟩ := Int.eq_ofNat_of_zero_le r0
    exact cascadeOrder_main wm di tn sl n cap N r Z w hv hN (by omega) (.inr ⟨by omega, hr⟩) ht hp
end Go.Proofs.YtnbagilcbngdcaaDoor
