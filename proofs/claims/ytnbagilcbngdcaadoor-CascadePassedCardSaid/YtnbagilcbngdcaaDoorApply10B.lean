/- Layer 10: what declarations come to, by the program: one after another. -/
import Derived.Test.YtnbagilcbngdcaaDoorApply10
namespace Go.Proofs.YtnbagilcbngdcaaDoor
open Go.RowKit
set_option linter.unusedSimpArgs false
set_option linter.unusedVariables false
set_option maxHeartbeats 4000000
set_option maxRecDepth 20000
theorem stepS_none {wr di : Int} {s : Sty} {q p : Int} {v : ByteArray} (hm : mapS wr di q = (p, 0)) (h : setS di s p v = none) : stepS wr di s q v = s := by
  unfold stepS; rw [hm]; dsimp only; rw [h]
theorem stepS_no {wr di : Int} {s t : Sty} {q p : Int} {v : ByteArray} (hm : mapS wr di q = (p, 0)) (h : setS di s p v = some t) (hb : mayS t = false) : stepS wr di s q v = s := by
  unfold stepS; rw [hm]; dsimp only; rw [h]; dsimp only; rw [if_neg (by rw [hb]; decide)]
theorem stepS_yes {wr di : Int} {s t : Sty} {q p : Int} {v : ByteArray} (hm : mapS wr di q = (p, 0)) (h : setS di s p v = some t) (hb : mayS t = true) : stepS wr di s q v = t := by
  unfold stepS; rw [hm]; dsimp only; rw [h]; dsimp only; rw [if_pos hb]
/-- what set says, in three ways -/
theorem set_ways {wr di : Int} {s t : Sty} {q p : Int} {v : ByteArray} {ok : Bool} (hm : mapS wr di q = (p, 0)) (hs : Sets (setS di s p v) t ok) :
    (ok = false ∧ stepS wr di s q v = s) ∨ (ok = true ∧ mayS t = false ∧ stepS wr di s q v = s) ∨ (ok = true ∧ mayS t = true ∧ stepS wr di s q v = t) := by
  cases h : setS di s p v with
  | none => rw [h] at hs; exact .inl ⟨hs, stepS_none hm h⟩
  | some u =>
    rw [h] at hs
    obtain ⟨rfl, rfl⟩ := hs
    cases hb : mayS t with
    | false => exact .inr (.inl ⟨rfl, rfl, stepS_no hm h hb⟩)
    | true => exact .inr (.inr ⟨rfl, rfl, stepS_yes hm h hb⟩)
theorem apply_ok (wm di : Int) (o : Option Addr) (n cap : Nat) (P : Nat → Int) (T : Nat → ByteArray) (w : World) (hv : RV 2 w (.slice o n cap) n (declC P T)) (ht : TabN w) (hp : Pow w) (hb : declsB wm di n P = true) (hT : ∀ i, i < n → (T i).size ≤ 140737488355328) :
    Calls Tryd.prog 18 #[modeV wm di, .slice o n cap] w fun e w' => e = .returned (.tuple #[(appS wm di P T n).V, .int .i64 0]) ∧ Kept w w' := by
  unfold declsB at hb
  rw [Bool.and_eq_true, Bool.and_eq_true, decide_eq_true_eq] at hb
  obtain ⟨⟨hm, hn16⟩, hpb⟩ := hb
  have HM := Lib.hid (fun wx => modeMay10_is wm di true wx hm)
  have HP := Lib.hid (fun wx (hx : RV 2 wx (.slice o n cap) n (declC P T)) (hy : TabN wx) => (show Calls Tryd.prog 37 #[.slice o n cap, .func (.func 34) #[] #[]] wx (fun e w' => e = .returned (.bool false) ∧ Kept wx w') from by have := containsDecls_any o n cap P T wx hx (by omega) hy; rw [hpb] at this; exact this))
  have HG := Lib.hid (fun k (hk : k < n) => map_logical wm di (P k) hm (propsB_yes hpb hk))
  have HT := Lib.hid hT
  have HV := Lib.hid hv
  have h16 : ¬ (16 : Int) < (n : Int) := by omega
  clear hm hpb hT
  have hk : Kept w w := Kept.refl w
  go_enter Tryd.func18, Tryd.ntmps18
  go_wp2_with fail
  refine with_boxes2 ?_
  intro X hX m r
  have hsz := hk.size
  replace hk := hk.trans hX
  clear hX
  replace m_l := m.lt
  replace m_0 := m.at 0 _ rfl
  replace m_1 := m.at 1 _ rfl
  refine (HM.out _).mono ?_
  rintro e w1 ⟨rfl, hn⟩
  replace hk := hk.trans hn
  replace m := m.kept hn
  replace r := r.kept hn
  clear hn
  replace m_l := m.lt
  replace m_0 := m.at 0 _ rfl
  replace m_1 := m.at 1 _ rfl
  go_wp2_with fail
  refine (HP.out _ (hv.kept hk) (ht.kept hk)).mono ?_
  rintro e w1 ⟨rfl, hn⟩
  replace hk := hk.trans hn
  replace m := m.kept hn
  replace r := r.kept hn
  clear hn
  replace m_l := m.lt
  replace m_0 := m.at 0 _ rfl
  replace m_1 := m.at 1 _ rfl
  go_wp2_with fail
  refine (cascadeNew_any _).mono ?_
  rintro e w1 ⟨rfl, hn⟩
  replace hk := hk.trans hn
  replace m := m.kept hn
  replace r := r.kept hn
  clear hn
  replace m_l := m.lt
  replace m_0 := m.at 0 _ rfl
  replace m_1 := m.at 1 _ rfl
  obtain ⟨A, hA⟩ : ∃ z, w1.heap.size = z := ⟨_, rfl⟩
  have HA := Lib.hid hA
  clear hA h16 hv
  have r_l := r.lt
  go_wp2_with (first | (refine here_store 42 _ _ rfl ?_; refine wpList_store_own rfl 42 _ _ rfl _ _ rfl rfl (Own.new _ _ _) (by rfl) (by kernel_rfl) (by rfl) ?_; intro X st hoX hkX; have hsz := hk.size; replace hk := hkX _ (hk.alloc _) (by first | omega | (simp; omega)); have m_l := m.lt; replace m := (m.alloc _).same (hoX _ (by first | omega | (simp; omega))); have r_l := r.lt; replace r := (r.alloc _).same (hoX _ (by first | omega | (simp; omega))); clear hoX hkX; replace m_l := m.lt; replace m_0 := m.at 0 _ rfl; replace m_1 := m.at 1 _ rfl))
  have st2 := HA.out ▸ st
  clear st
  have st := st2
  clear st2
  rw [HA.out]
  have hrA : w.heap.size + 1 < A := by rw [← HA.out]; exact r_l
  clear r_l
  go_loopw [29] (fun i wx => ∃ k : Nat, k ≤ n ∧ i = .int .i64 k ∧ Kept w wx ∧ Own wx w.heap.size 38 #[.int .i64 wm, .int .i64 di] ∧ Own wx (w.heap.size + 1) 42 zeroS.C ∧ Own wx A 42 (appS wm di P T k).C) (fun i _ => n - (intOf i).toNat)
  case atStart => exact ⟨0, Nat.zero_le _, rfl, hk, m, r, st⟩
  case round =>
    clear hk m r st m_l m_0 m_1
    obtain ⟨k, hkn, rfl, hk, m, r, st⟩ := hrel
    have hsz2 := hk.size
    have m_l := m.lt
    have r_l0 := r.lt
    have st_l0 := st.lt
    by_cases hlt : k < n
    · skip
      have hi1 : (k : Int) < (n : Int) := by omega
      obtain ⟨b, off, rfl, hle, hrow⟩ := (HV.out.kept hk).row (by omega)
      have c0 : wr.cell? ⟨b, off + k * 2, none⟩ = some (.int .i64 (P k)) := hrow k 0 hlt (by decide)
      have c1 : wr.cell? ⟨b, off + k * 2 + 1, none⟩ = some (.string (T k)) := hrow k 1 hlt (by decide)
      clear hrow
      have hlog := HG.out k hlt
      have hTk := HT.out k hlt
      have HSTEP := Lib.hid (show appS wm di P T (k + 1) = stepS wm di (appS wm di P T k) (P k) (T k) from rfl)
      obtain ⟨s, hs⟩ : ∃ z, appS wm di P T k = z := ⟨_, rfl⟩
      rw [hs] at st HSTEP
      clear hs
      obtain ⟨q, hq⟩ : ∃ z, P k = z := ⟨_, rfl⟩
      rw [hq] at c0 hlog HSTEP
      clear hq
      obtain ⟨v, hvk⟩ : ∃ z, T k = z := ⟨_, rfl⟩
      rw [hvk] at c1 hTk HSTEP
      clear hvk
      obtain ⟨p, hmp⟩ : ∃ z, (mapS wm di q).1 = z := ⟨_, rfl⟩
      rw [hmp] at hlog
      have hmq : mapS wm di q = (p, 0) := Prod.ext hmp hlog.2
      have HSET := Lib.hid (fun wx (hx : Pow wx) (hy : Tab wx) => set_any s wm di q p v wx hTk hx hy hlog.1 hmq)
      have HMQ := Lib.hid hmq
      clear hmp hmq hlog hTk
      go_upto_region 8 with fail
      refine code_boxes1 ?_
      intro X hX d
      have hsz := hk.size
      replace hk := hk.trans hX
      replace m := m.kept hX
      replace r := r.kept hX
      replace st := st.kept hX
      clear hX
      replace m_l := m.lt
      replace m_0 := m.at 0 _ rfl
      replace m_1 := m.at 1 _ rfl
      replace d_l := d.lt
      replace d_0 := d.at 0 _ rfl
      replace d_1 := d.at 1 _ rfl
      go_wp2_with (refine here_load 42 _ rfl ?_; refine wpList_load_own rfl 42 _ rfl _ rfl st _ Tryd.underlying42 rfl (by kernel_rfl) ?_)
      go_wp2_with fail
      refine (HSET.out _ (hp.kept hk) (ht.kept hk).tab).mono ?_
      rintro e w1 ⟨t, ok, rfl, hset, hn⟩
      replace hk := hk.trans hn
      replace m := m.kept hn
      replace r := r.kept hn
      replace st := st.kept hn
      replace d := d.kept hn
      clear hn
      replace m_l := m.lt
      replace m_0 := m.at 0 _ rfl
      replace m_1 := m.at 1 _ rfl
      replace d_l := d.lt
      replace d_0 := d.at 0 _ rfl
      replace d_1 := d.at 1 _ rfl
      have hw3 := set_ways HMQ.out hset
      have HW := Lib.hid hw3
      clear hset hw3
      rcases HW.out with ⟨rfl, he⟩ | ⟨rfl, hb, he⟩ | ⟨rfl, hb, he⟩
      · skip
        have HE := Lib.hid he
        clear he HW
        go_wp2_with (first | (refine here_store 42 _ _ rfl ?_; refine wpList_store_own rfl 42 _ _ rfl _ _ rfl rfl (Own.new _ _ _) (by rfl) (by kernel_rfl) (by rfl) ?_; intro X nx hoX hkX; have hsz := hk.size; replace hk := hkX _ (hk.alloc _) (by first | omega | (simp; omega)); have m_l := m.lt; replace m := (m.alloc _).same (hoX _ (by first | omega | (simp; omega))); have r_l := r.lt; replace r := (r.alloc _).same (hoX _ (by first | omega | (simp; omega))); have st_l := st.lt; replace st := (st.alloc _).same (hoX _ (by first | omega | (simp; omega))); have d_l := d.lt; replace d := (d.alloc _).same (hoX _ (by first | omega | (simp; omega))); clear hoX hkX; replace m_l := m.lt; replace m_0 := m.at 0 _ rfl; replace m_1 := m.at 1 _ rfl; replace d_l := d.lt; replace d_0 := d.at 0 _ rfl; replace d_1 := d.at 1 _ rfl))
        exact ⟨⟨k + 1, by omega, by first | rfl | go_num, hk, m, r, by rw [HSTEP.out, HE.out]; exact st⟩, by first | (simp [intOf]; done) | (simp [intOf]; omega)⟩
      · skip
        have HE := Lib.hid he
        have HB := Lib.hid (fun wx => cascadeMay_is t false wx hb)
        clear he hb HW
        go_wp2_with (first | (refine here_store 42 _ _ rfl ?_; refine wpList_store_own rfl 42 _ _ rfl _ _ rfl rfl (Own.new _ _ _) (by rfl) (by kernel_rfl) (by rfl) ?_; intro X nx hoX hkX; have hsz := hk.size; replace hk := hkX _ (hk.alloc _) (by first | omega | (simp; omega)); have m_l := m.lt; replace m := (m.alloc _).same (hoX _ (by first | omega | (simp; omega))); have r_l := r.lt; replace r := (r.alloc _).same (hoX _ (by first | omega | (simp; omega))); have st_l := st.lt; replace st := (st.alloc _).same (hoX _ (by first | omega | (simp; omega))); have d_l := d.lt; replace d := (d.alloc _).same (hoX _ (by first | omega | (simp; omega))); clear hoX hkX; replace m_l := m.lt; replace m_0 := m.at 0 _ rfl; replace m_1 := m.at 1 _ rfl; replace d_l := d.lt; replace d_0 := d.at 0 _ rfl; replace d_1 := d.at 1 _ rfl) | (refine here_load 42 _ rfl ?_; refine wpList_load_own_if 42 _ rfl (by rfl) _ rfl nx _ Tryd.underlying42 rfl (by kernel_rfl) ?_))
        go_wp2_with fail
        refine (HB.out _).mono ?_
        rintro e w1 ⟨rfl, hn⟩
        replace hk := hk.trans hn
        replace m := m.kept hn
        replace r := r.kept hn
        replace st := st.kept hn
        replace d := d.kept hn
        replace nx := nx.kept hn
        clear hn
        replace m_l := m.lt
        replace m_0 := m.at 0 _ rfl
        replace m_1 := m.at 1 _ rfl
        replace d_l := d.lt
        replace d_0 := d.at 0 _ rfl
        replace d_1 := d.at 1 _ rfl
        go_wp2
        exact ⟨⟨k + 1, by omega, by first | rfl | go_num, hk, m, r, by rw [HSTEP.out, HE.out]; exact st⟩, by first | (simp [intOf]; done) | (simp [intOf]; omega)⟩
      · skip
        have HE := Lib.hid he
        have HB := Lib.hid (fun wx => cascadeMay_is t true wx hb)
        clear he hb HW
        go_wp2_with (first | (refine here_store 42 _ _ rfl ?_; refine wpList_store_own rfl 42 _ _ rfl _ _ rfl rfl (Own.new _ _ _) (by rfl) (by kernel_rfl) (by rfl) ?_; intro X nx hoX hkX; have hsz := hk.size; replace hk := hkX _ (hk.alloc _) (by first | omega | (simp; omega)); have m_l := m.lt; replace m := (m.alloc _).same (hoX _ (by first | omega | (simp; omega))); have r_l := r.lt; replace r := (r.alloc _).same (hoX _ (by first | omega | (simp; omega))); have st_l := st.lt; replace st := (st.alloc _).same (hoX _ (by first | omega | (simp; omega))); have d_l := d.lt; replace d := (d.alloc _).same (hoX _ (by first | omega | (simp; omega))); clear hoX hkX; replace m_l := m.lt; replace m_0 := m.at 0 _ rfl; replace m_1 := m.at 1 _ rfl; replace d_l := d.lt; replace d_0 := d.at 0 _ rfl; replace d_1 := d.at 1 _ rfl) | (refine here_load 42 _ rfl ?_; refine wpList_load_own_if 42 _ rfl (by rfl) _ rfl nx _ Tryd.underlying42 rfl (by kernel_rfl) ?_))
        go_wp2_with fail
        refine (HB.out _).mono ?_
        rintro e w1 ⟨rfl, hn⟩
        replace hk := hk.trans hn
        replace m := m.kept hn
        replace r := r.kept hn
        replace st := st.kept hn
        replace d := d.kept hn
        replace nx := nx.kept hn
        clear hn
        replace m_l := m.lt
        replace m_0 := m.at 0 _ rfl
        replace m_1 := m.at 1 _ rfl
        replace d_l := d.lt
        replace d_0 := d.at 0 _ rfl
        replace d_1 := d.at 1 _ rfl
        go_wp2_with (first | (refine here_load 42 _ rfl ?_; refine wpList_load_own rfl 42 _ rfl _ rfl nx _ Tryd.underlying42 rfl (by kernel_rfl) ?_) | (refine here_store 42 _ _ rfl ?_; refine wpList_store_own rfl 42 _ _ rfl _ _ rfl rfl st (by rfl) (by kernel_rfl) (by rfl) ?_; intro X oX hoX hkX; replace hk := hkX _ hk (by first | omega | (simp; omega)); replace st := oX; replace m := m.same (hoX _ (by first | omega | (simp; omega))); replace r := r.same (hoX _ (by first | omega | (simp; omega))); replace d := d.same (hoX _ (by first | omega | (simp; omega))); replace nx := nx.same (hoX _ (by first | omega | (simp; omega))); clear oX hoX hkX; replace m_l := m.lt; replace m_0 := m.at 0 _ rfl; replace m_1 := m.at 1 _ rfl; replace d_l := d.lt; replace d_0 := d.at 0 _ rfl; replace d_1 := d.at 1 _ rfl))
        exact ⟨⟨k + 1, by omega, by first | rfl | go_num, hk, m, r, by rw [HSTEP.out, HE.out]; exact st⟩, by first | (simp [intOf]; done) | (simp [intOf]; omega)⟩
    · skip
      obtain rfl : k = n := by omega
      obtain ⟨s, hs⟩ : ∃ z, appS wm di P T k = z := ⟨_, rfl⟩
      rw [hs] at st
      have HS := Lib.hid hs
      clear hs
      go_upto_region 12 with fail
      have q1 : (Sty.C s).size = zeroS.C.size := rfl
      have q2 : (Tryd.prog.info? 42).map (·.size) = some (Sty.C s).size := by kernel_rfl
      have q3 : (Sty.C s).toList.all (fun v => v.oneCell') = true := by rfl
      have r2 := Lib.hid r
      go_wp2_with (first | (refine here_load 42 _ rfl ?_; refine wpList_load_own rfl 42 _ rfl _ rfl st _ Tryd.underlying42 rfl (by kernel_rfl) ?_) | (refine here_store 42 _ _ rfl ?_; refine wpList_store_own rfl 42 _ _ rfl _ _ rfl rfl r2 q1 q2 q3 ?_; intro X oX hoX hkX))
      replace hk := hkX _ hk (by omega)
      exact bodyPost_ret (results_own_tmp 42 _ Tryd.results18 rfl oX Tryd.underlying42 rfl (by kernel_rfl)) rfl ⟨by rw [HS.out]; rfl, hk⟩
theorem apply_any (wr di : Int) (v : Value) (n : Nat) (P : Nat → Int) (T : Nat → ByteArray) (w : World) (hv : RV 2 w v n (declC P T)) (hn : n ≤ 4611686018427387904) (ht : TabN w) (hp : Pow w) (hT : ∀ i, i < n → (T i).size ≤ 140737488355328) :
    Calls Tryd.prog 18 #[modeV wr di, v] w fun e w' => e = .returned (.tuple #[(applyS wr di n P T).1.V, .int .i64 (applyS wr di n P T).2]) ∧ Kept w w' := by
  obtain ⟨o, cap, rfl⟩ := hv.shape
  cases hb : declsB wr di n P with
  | false =>
    rw [show applyS wr di n P T = (zeroS, 1000) from if_neg (by rw [hb]; decide)]
    exact apply_bad wr di o n cap P T w hv hn ht hb
  | true =>
    rw [show applyS wr di n P T = (appS wr di P T n, 0) from if_pos hb]
    exact apply_ok wr di o n cap P T w hv ht hp hb hT
end Go.Proofs.YtnbagilcbngdcaaDoor
