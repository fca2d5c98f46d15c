/- Layer 10: a declaration behind all others wins, if it may be. -/
import Derived.Test.YtnbagilcbngdcaaDoorLast10S
import Derived.Test.YtnbagilcbngdcaaDoorShape
namespace Go.Proofs.YtnbagilcbngdcaaDoor
open Go.RowKit Go.Deep
set_option linter.unusedSimpArgs false
set_option linter.unusedVariables false
set_option maxHeartbeats 8000000
set_option maxRecDepth 20000
theorem cascadeLast_many (wm di va pa : Int) (sl : Option Addr) (n cap : Nat) (P : Nat → Int) (T : Nat → ByteArray) (w : World) (hv : RV 2 w (.slice sl n cap) n (declC P T)) (hT : ∀ i, i < n → (T i).size ≤ 140737488355328) (ht : TabN w) (hp : Pow w) (h16 : 16 ≤ n) :
    Calls Tryd.prog 6 #[modeV wm di, .slice sl n cap, .int .i64 va, .int .i64 pa] w fun e w' => e = .returned (.bool true) ∧ Kept w w' := by
  have h16' : (16 : Int) ≤ (n : Int) := by omega
  have hk : Kept w w := Kept.refl w
  go_enter Tryd.func6, Tryd.ntmps6
  go_wp2_with fail
  refine with_boxes1 ?_
  intro X hX m
  have hsz := hk.size
  replace hk := hk.trans hX
  clear hX
  replace m_l := m.lt
  replace m_0 := m.at 0 _ rfl
  replace m_1 := m.at 1 _ rfl
  refine (awake10_any _ (ht.kept hk) (hp.kept hk)).mono ?_
  rintro e w1 ⟨rfl, hn⟩
  replace hk := hk.trans hn
  replace m := m.kept hn
  clear hn
  replace m_l := m.lt
  replace m_0 := m.at 0 _ rfl
  replace m_1 := m.at 1 _ rfl
  go_wp2
  go_ret
  exact ⟨rfl, hk⟩
theorem cascadeLast_bad (wm di va pa : Int) (sl : Option Addr) (n cap : Nat) (P : Nat → Int) (T : Nat → ByteArray) (w : World) (hv : RV 2 w (.slice sl n cap) n (declC P T)) (hT : ∀ i, i < n → (T i).size ≤ 140737488355328) (ht : TabN w) (hp : Pow w) (h16 : n < 16) (hb : declsB wm di n P = false) :
    Calls Tryd.prog 6 #[modeV wm di, .slice sl n cap, .int .i64 va, .int .i64 pa] w fun e w' => e = .returned (.bool true) ∧ Kept w w' := by
  have h16' : ¬ (16 : Int) ≤ (n : Int) := by omega
  have hq := fun (s : Sty) (w : World) => eql_sty s w
  have h1 : applyS wm di n P T = (zeroS, 1000) := if_neg (by rw [hb]; decide)
  have H1 := Lib.hid (fun wx (hx : RV 2 wx (.slice sl n cap) n (declC P T)) (hy : TabN wx) (hz : Pow wx) => apply_is wm di _ n P T zeroS 1000 wx hx (by omega) hy hz hT h1)
  clear h1 hb
  have hk : Kept w w := Kept.refl w
  go_enter Tryd.func6, Tryd.ntmps6
  go_wp2_with fail
  refine with_boxes1 ?_
  intro X hX m
  have hsz := hk.size
  replace hk := hk.trans hX
  clear hX
  replace m_l := m.lt
  replace m_0 := m.at 0 _ rfl
  replace m_1 := m.at 1 _ rfl
  refine (awake10_any _ (ht.kept hk) (hp.kept hk)).mono ?_
  rintro e w1 ⟨rfl, hn⟩
  replace hk := hk.trans hn
  replace m := m.kept hn
  clear hn
  replace m_l := m.lt
  replace m_0 := m.at 0 _ rfl
  replace m_1 := m.at 1 _ rfl
  go_wp2_with fail
  refine (H1.out _ (hv.kept hk) (ht.kept hk) (hp.kept hk)).mono ?_
  rintro e w1 ⟨rfl, hn⟩
  replace hk := hk.trans hn
  replace m := m.kept hn
  clear hn
  replace m_l := m.lt
  replace m_0 := m.at 0 _ rfl
  replace m_1 := m.at 1 _ rfl
  go_wp2_with (first | (refine here_store 42 _ _ rfl ?_; refine wpList_store_own rfl 42 _ _ rfl _ _ rfl rfl (Own.new _ _ _) (by rfl) (by kernel_rfl) (by rfl) ?_; intro X a hoX hkX; have hsz := hk.size; replace hk := hkX _ (hk.alloc _) (by first | omega | (simp; omega)); have m_l := m.lt; replace m := (m.alloc _).same (hoX _ (by first | omega | (simp; omega))); clear hoX hkX; replace m_l := m.lt; replace m_0 := m.at 0 _ rfl; replace m_1 := m.at 1 _ rfl))
  go_wp2_with fail
  refine (num_any _ _).mono ?_
  rintro e w1 ⟨rfl, rfl⟩
  have hq0 : ∀ w, Sem.run Tryd.prog (Op.equalIn 10000 42 zeroS.V (.agg #[.int .i64 0, .int .i64 0, .int .i64 0, .int .i64 0, .int .i64 0, .int .i64 0, .int .i64 0, .int .i64 0, .int .i64 0, .int .i64 0, .int .i64 0, .int .i64 0, .int .i64 0, .int .i64 0, .int .i64 0, .int .i64 0, .int .i64 0, .int .i64 0, .int .i64 0, .int .i64 0, .int .i64 0, .int .i64 0, .int .i64 0, .int .i64 0, .int .i64 0, .int .i64 0, .int .i64 0, .int .i64 0, .int .i64 0, .int .i64 0, .int .i64 0, .bool false])) w = .ok true w := fun w => hq zeroS w
  go_wp2_with ((refine here_load 42 _ rfl ?_; refine wpList_load_own rfl 42 _ rfl _ rfl a _ Tryd.underlying42 rfl (by kernel_rfl) ?_))
  go_ret
  exact ⟨rfl, hk⟩
theorem cascadeLast_ok (wm di va pa : Int) (sl : Option Addr) (n cap : Nat) (P : Nat → Int) (T : Nat → ByteArray) (w : World) (hv : RV 2 w (.slice sl n cap) n (declC P T)) (hT : ∀ i, i < n → (T i).size ≤ 140737488355328) (ht : TabN w) (hp : Pow w) (q j : Nat) (hva : bits .and .i64 va 4095 = (q : Int)) (hq1 : q ≤ 4095) (hpa : (IntKind.u64.wrap pa).tmod 29 = (j : Int)) (hj : j < 29) (h16 : n < 16) (hb : declsB wm di n P = true) :
    Calls Tryd.prog 6 #[modeV wm di, .slice sl n cap, .int .i64 va, .int .i64 pa] w fun e w' => e = .returned (.bool true) ∧ Kept w w' := by
  obtain ⟨i0, hi, hz0, hz1, hz2⟩ := info_parts declsInfo
  have h16' : ¬ (16 : Int) ≤ (n : Int) := by omega
  have hq := fun (s : Sty) (w : World) => eql_sty s w
  have h1 : applyS wm di n P T = (appS wm di P T n, 0) := if_pos hb
  have h2 := apply_none (P := P) (T := T) (p := (j : Int)) hb h16 (inB_true.2 (by omega))
  have h3 := apply_inl (P := P) (T := T) hb h16 q (by omega)
  have hmay := appS_may wm di P T n
  have hsz := dec_size10 q (by omega)
  have HD := Lib.hid (fun wx => decimal_any q (by omega) wx)
  have hT3 : ∀ i, i < n + 1 → (addT T n ⟨(Lib.decDigits q).toArray⟩ i).size ≤ 140737488355328 := by
    intro i hi
    unfold addT
    split
    · exact hT i ‹_›
    · omega
  have hT2 : ∀ i, i < n + 1 → (addT T n noneT i).size ≤ 140737488355328 := by
    intro i hi
    unfold addT
    split
    · exact hT i ‹_›
    · decide
  have H1 := Lib.hid (fun wx (hx : RV 2 wx (.slice sl n cap) n (declC P T)) (hy : TabN wx) (hz : Pow wx) => apply_is wm di _ n P T _ _ wx hx (by omega) hy hz hT h1)
  have H2 := Lib.hid (fun wx v (hx : RV 2 wx v (n + 1) (declC (addP P n j) (addT T n noneT))) (hy : TabN wx) (hz : Pow wx) => apply_is wm di v (n + 1) (addP P n j) (addT T n noneT) _ _ wx hx (by omega) hy hz hT2 h2)
  have HF2 := Lib.hid (flat_addD P T n j noneT)
  have HF3 := Lib.hid (flat_addD P T n 0 ⟨(Lib.decDigits q).toArray⟩)
  generalize (⟨(Lib.decDigits q).toArray⟩ : ByteArray) = D at *
  have H3 := Lib.hid (fun wx v (hx : RV 2 wx v (n + 1) (declC (addP P n 0) (addT T n D))) (hy : TabN wx) (hz : Pow wx) => apply_is wm di v (n + 1) (addP P n 0) (addT T n D) _ _ wx hx (by omega) hy hz hT3 h3)
  have HM := Lib.hid (fun wx => cascadeMay_is _ true wx hmay)
  clear h1 h2 h3 hmay hb hT hT2 hT3
  generalize appS wm di P T n = s at *
  have hk : Kept w w := Kept.refl w
  go_enter Tryd.func6, Tryd.ntmps6
  go_wp2_with fail
  refine with_boxes1 ?_
  intro X hX m
  have hsz := hk.size
  replace hk := hk.trans hX
  clear hX
  replace m_l := m.lt
  replace m_0 := m.at 0 _ rfl
  replace m_1 := m.at 1 _ rfl
  refine (awake10_any _ (ht.kept hk) (hp.kept hk)).mono ?_
  rintro e w1 ⟨rfl, hn⟩
  replace hk := hk.trans hn
  replace m := m.kept hn
  clear hn
  replace m_l := m.lt
  replace m_0 := m.at 0 _ rfl
  replace m_1 := m.at 1 _ rfl
  go_wp2_with fail
  refine (H1.out _ (hv.kept hk) (ht.kept hk) (hp.kept hk)).mono ?_
  rintro e w1 ⟨rfl, hn⟩
  replace hk := hk.trans hn
  replace m := m.kept hn
  clear hn
  replace m_l := m.lt
  replace m_0 := m.at 0 _ rfl
  replace m_1 := m.at 1 _ rfl
  go_wp2_with (first | (refine here_store 42 _ _ rfl ?_; refine wpList_store_own rfl 42 _ _ rfl _ _ rfl rfl (Own.new _ _ _) (by rfl) (by kernel_rfl) (by rfl) ?_; intro X a hoX hkX; have hsz := hk.size; replace hk := hkX _ (hk.alloc _) (by first | omega | (simp; omega)); have m_l := m.lt; replace m := (m.alloc _).same (hoX _ (by first | omega | (simp; omega))); clear hoX hkX; replace m_l := m.lt; replace m_0 := m.at 0 _ rfl; replace m_1 := m.at 1 _ rfl))
  go_wp2_with fail
  refine (num_any _ _).mono ?_
  rintro e w1 ⟨rfl, rfl⟩
  go_upto_region 8 with fail
  have hX := World.ownsRow_made X #[] 0 (Nat.le_refl _) (by decide) (by simp) (e := 53) (size := 2)
  go_upto_region 9 with (at_builtin; refine wpList_append_rv rfl _ _ 39 rfl X.heap.size 53 i0 (.agg #[.int .i64 0, .string ⟨#[]⟩]) 2 24 Tryd.underlying39 hi hz0 hz1 hz2 rfl (by decide) _ _ _ rfl hX n (declC P T) (declC_one P T) _ rfl (hv.kept (hk.alloc _)) (by unfold maxLen; omega) (by omega) (by simp) ?_; intro v2 w2 hown2 hg2)
  have kX := ((Kept.refl X).alloc _).grown hg2 (row_ge hX)
  have hkX := hk
  have aX := a
  have mX := m
  have hle := kX.size
  have hle1 := hk.size
  have hwj : IntKind.i64.wrap (j : Int) = j := by rw [IntKind.wrap_i64]; omega
  clear hX hg2 m_l m_0 m_1 hk a m
  go_upto_region 10 with (at_builtin; refine wpList_append_own _ rfl _ _ 39 rfl X.heap.size 53 i0 (.agg #[.int .i64 0, .string ⟨#[]⟩]) 2 24 Tryd.underlying39 hi hz0 hz1 hz2 rfl (by decide) _ _ _ rfl (hown2.alloc _) ⟨w2.heap.size, 0, none⟩ 1 1 [.int .i64 (j : Int), .string noneT] rfl rfl (lit_cells w2 #[.int .i64 (j : Int), .string noneT] 53) (by simp [Value.oneCell']) (by unfold maxLen; omega) (by omega) (by simp; omega) ?_; intro v3 w3 hown3 hg3 _)
  have kX3 := (kX.alloc _).grown hg3 (row_ge hown2)
  have hk := hkX.trans kX3
  have a := aX.kept kX3
  have m := mX.kept kX3
  have hr3 : RV 2 w3 v3 (n + 1) (declC (addP P n j) (addT T n noneT)) := by
    have h := hown3
    rw [List.nil_append, HF2.out, show 0 + n + 1 = n + 1 by omega] at h
    exact (newRow_of h).rv
  clear hown3 hg3 hown2 kX kX3 aX mX hkX hwj hle hle1
  replace m_l := m.lt
  replace m_0 := m.at 0 _ rfl
  replace m_1 := m.at 1 _ rfl
  have h3sz := hk.size
  go_wp2_with fail
  refine (H2.out _ _ hr3 (ht.kept hk) (hp.kept hk)).mono ?_
  rintro e w1 ⟨rfl, hn⟩
  replace hk := hk.trans hn
  replace m := m.kept hn
  replace a := a.kept hn
  clear hn
  replace m_l := m.lt
  replace m_0 := m.at 0 _ rfl
  replace m_1 := m.at 1 _ rfl
  clear hr3
  go_upto_region 11 with (first | (refine here_store 42 _ _ rfl ?_; refine wpList_store_own rfl 42 _ _ rfl _ _ rfl rfl (Own.new _ _ _) (by rfl) (by kernel_rfl) (by rfl) ?_; intro X b hoX hkX; have hsz := hk.size; replace hk := hkX _ (hk.alloc _) (by first | omega | (simp; omega)); have m_l := m.lt; replace m := (m.alloc _).same (hoX _ (by first | omega | (simp; omega))); have a_l := a.lt; replace a := (a.alloc _).same (hoX _ (by first | omega | (simp; omega))); clear hoX hkX; replace m_l := m.lt; replace m_0 := m.at 0 _ rfl; replace m_1 := m.at 1 _ rfl))
  have hX := World.ownsRow_made X #[] 0 (Nat.le_refl _) (by decide) (by simp) (e := 53) (size := 2)
  go_upto_region 12 with (at_builtin; refine wpList_append_rv rfl _ _ 39 rfl X.heap.size 53 i0 (.agg #[.int .i64 0, .string ⟨#[]⟩]) 2 24 Tryd.underlying39 hi hz0 hz1 hz2 rfl (by decide) _ _ _ rfl hX n (declC P T) (declC_one P T) _ rfl (hv.kept (hk.alloc _)) (by unfold maxLen; omega) (by omega) (by simp) ?_; intro v4 w4 hown4 hg4)
  have kX := ((Kept.refl X).alloc _).grown hg4 (row_ge hX)
  have hkX := Lib.hid hk
  have aX := a
  have bX := b
  have mX := m
  have ho : OR w4 X.heap.size 53 2 v4 (0 + n) ([] ++ flat 2 (declC P T) n) := ⟨hown4⟩
  have hs : Since X w4 := ⟨kX⟩
  have hle0 := hk.size
  replace hk := hk.trans kX
  clear hX hg4 hown4 m_l m_0 m_1 a b m
  go_wp2_with fail
  refine (HD.out _).mono ?_
  rintro e w1 ⟨rfl, hn⟩
  replace hk := hk.trans hn
  replace ho := ho.kept hn
  replace hs := hs.kept hn
  clear hn
  have kX := hs.k
  have hle := kX.size
  go_upto_region 13 with (at_builtin; refine wpList_append_own _ rfl _ _ 39 rfl X.heap.size 53 i0 (.agg #[.int .i64 0, .string ⟨#[]⟩]) 2 24 Tryd.underlying39 hi hz0 hz1 hz2 rfl (by decide) _ _ _ rfl (ho.own.alloc _) ⟨w1.heap.size, 0, none⟩ 1 1 [.int .i64 0, .string D] rfl rfl (lit_cells w1 #[.int .i64 0, .string D] 53) (by simp [Value.oneCell']) (by unfold maxLen; omega) (by omega) (by simp; omega) ?_; intro v5 w5 hown5 hg5 _)
  have kX5 := (kX.alloc _).grown hg5 (row_ge ho.own)
  replace hk := hkX.out.trans kX5
  have a := aX.kept kX5
  have b := bX.kept kX5
  have m := mX.kept kX5
  have hr5 : RV 2 w5 v5 (n + 1) (declC (addP P n 0) (addT T n D)) := by
    have h := hown5
    rw [List.nil_append, HF3.out, show 0 + n + 1 = n + 1 by omega] at h
    exact (newRow_of h).rv
  clear hown5 hg5 ho hs kX kX5 aX bX mX hkX hle hle0
  replace m_l := m.lt
  replace m_0 := m.at 0 _ rfl
  replace m_1 := m.at 1 _ rfl
  go_wp2_with fail
  refine (H3.out _ _ hr5 (ht.kept hk) (hp.kept hk)).mono ?_
  rintro e w1 ⟨rfl, hn⟩
  replace hk := hk.trans hn
  replace m := m.kept hn
  replace a := a.kept hn
  replace b := b.kept hn
  clear hn
  replace m_l := m.lt
  replace m_0 := m.at 0 _ rfl
  replace m_1 := m.at 1 _ rfl
  clear hr5
  go_upto_region 14 with (first | (refine here_store 42 _ _ rfl ?_; refine wpList_store_own rfl 42 _ _ rfl _ _ rfl rfl (Own.new _ _ _) (by rfl) (by kernel_rfl) (by rfl) ?_; intro X c hoX hkX; have hsz := hk.size; replace hk := hkX _ (hk.alloc _) (by first | omega | (simp; omega)); have m_l := m.lt; replace m := (m.alloc _).same (hoX _ (by first | omega | (simp; omega))); have a_l := a.lt; replace a := (a.alloc _).same (hoX _ (by first | omega | (simp; omega))); have b_l := b.lt; replace b := (b.alloc _).same (hoX _ (by first | omega | (simp; omega))); clear hoX hkX; replace m_l := m.lt; replace m_0 := m.at 0 _ rfl; replace m_1 := m.at 1 _ rfl))
  have a_l := a.lt
  have b_l := b.lt
  have c_l := c.lt
  go_upto_region 15 with (first | (refine here_store 42 _ _ rfl ?_; refine wpList_store_own rfl 42 _ _ rfl _ _ rfl rfl (Own.new _ _ _) (by rfl) (by kernel_rfl) (by rfl) ?_; intro X d hoX hkX; have hsz := hk.size; replace hk := hkX _ (hk.alloc _) (by first | omega | (simp; omega)); have m_l := m.lt; replace m := (m.alloc _).same (hoX _ (by first | omega | (simp; omega))); have a_l := a.lt; replace a := (a.alloc _).same (hoX _ (by first | omega | (simp; omega))); have b_l := b.lt; replace b := (b.alloc _).same (hoX _ (by first | omega | (simp; omega))); have c_l := c.lt; replace c := (c.alloc _).same (hoX _ (by first | omega | (simp; omega))); clear hoX hkX; replace m_l := m.lt; replace m_0 := m.at 0 _ rfl; replace m_1 := m.at 1 _ rfl) | (refine here_load 42 _ rfl ?_; refine wpList_load_own rfl 42 _ rfl _ rfl a _ Tryd.underlying42 rfl (by kernel_rfl) ?_))
  have g0 := d.at 0 _ rfl
  have g1 := d.at 1 _ rfl
  have f0 := d.free 0
  have f1 := d.free 1
  have d_l := d.lt
  go_upto_region 16 with fail
  refine code_eq ?_
  intro X eX
  have hsz := hk.size
  replace hk := (eX ▸ (by first | ((repeat (first | with_reducible exact hk | with_reducible refine Kept.alloc ?_ _ | with_reducible refine Kept.drew ?_ | with_reducible refine Kept.drewN ?_ _ | with_reducible refine Kept.set ?_ (by first | (simp; done) | (simp; omega) | omega) _)); done) | exact hk | exact (hk.alloc _) | exact ((hk.alloc _).alloc _) | exact (((hk.alloc _).alloc _).alloc _) | exact ((((hk.alloc _).alloc _).alloc _).alloc _) | exact (((((hk.alloc _).alloc _).alloc _).alloc _).alloc _) | exact ((((((hk.alloc _).alloc _).alloc _).alloc _).alloc _).alloc _) | (repeat (first | exact hk | refine Kept.alloc ?_ _ | refine Kept.drew ?_ | refine Kept.drewN ?_ _ | refine Kept.set ?_ (by first | (simp; done) | (simp; omega) | omega) _))) : Kept w X)
  replace m := m.same (X := X) (by rw [eX]; repeat (first | with_reducible rfl | with_reducible refine (Below.heap_setCell _ _ _ _ (by first | omega | (simp; done) | (simp; omega))).trans ?_ | with_reducible refine (heap_drew_ _ _).trans ?_ | with_reducible refine (heap_drewN_ _ _ _).trans ?_))
  replace a := a.same (X := X) (by rw [eX]; repeat (first | with_reducible rfl | with_reducible refine (Below.heap_setCell _ _ _ _ (by first | omega | (simp; done) | (simp; omega))).trans ?_ | with_reducible refine (heap_drew_ _ _).trans ?_ | with_reducible refine (heap_drewN_ _ _ _).trans ?_))
  replace b := b.same (X := X) (by rw [eX]; repeat (first | with_reducible rfl | with_reducible refine (Below.heap_setCell _ _ _ _ (by first | omega | (simp; done) | (simp; omega))).trans ?_ | with_reducible refine (heap_drew_ _ _).trans ?_ | with_reducible refine (heap_drewN_ _ _ _).trans ?_))
  replace c := c.same (X := X) (by rw [eX]; repeat (first | with_reducible rfl | with_reducible refine (Below.heap_setCell _ _ _ _ (by first | omega | (simp; done) | (simp; omega))).trans ?_ | with_reducible refine (heap_drew_ _ _).trans ?_ | with_reducible refine (heap_drewN_ _ _ _).trans ?_))
  replace d : Own X _ _ ({ s with inl := ⟨1, (q : Int)⟩ } : Sty).C := eX ▸ ((((d.set 0 _).set 1 _)).is (by rfl))
  clear eX
  replace m_l := m.lt
  replace m_0 := m.at 0 _ rfl
  replace m_1 := m.at 1 _ rfl
  clear g0 g1 f0 f1
  go_wp2_with (refine here_load 42 _ rfl ?_; refine wpList_load_own rfl 42 _ rfl _ rfl a _ Tryd.underlying42 rfl (by kernel_rfl) ?_)
  go_wp2_with fail
  refine (HM.out _).mono ?_
  rintro e w1 ⟨rfl, hn⟩
  replace hk := hk.trans hn
  replace m := m.kept hn
  replace a := a.kept hn
  replace b := b.kept hn
  replace c := c.kept hn
  replace d := d.kept hn
  clear hn
  replace m_l := m.lt
  replace m_0 := m.at 0 _ rfl
  replace m_1 := m.at 1 _ rfl
  go_wp2_with fail
  refine (num_any _ _).mono ?_
  rintro e w1 ⟨rfl, rfl⟩
  go_wp2_with (first | (refine here_load 42 _ rfl ?_; refine wpList_load_own_if 42 _ rfl (by rfl) _ rfl a _ Tryd.underlying42 rfl (by kernel_rfl) ?_) | (refine here_load 42 _ rfl ?_; refine wpList_load_own_if 42 _ rfl (by rfl) _ rfl b _ Tryd.underlying42 rfl (by kernel_rfl) ?_))
  go_wp2_with fail
  refine (num_any _ _).mono ?_
  rintro e w1 ⟨rfl, rfl⟩
  go_wp2_with (first | (refine here_load 42 _ rfl ?_; refine wpList_load_own_if 42 _ rfl (by rfl) _ rfl c _ Tryd.underlying42 rfl (by kernel_rfl) ?_) | (refine here_load 42 _ rfl ?_; refine wpList_load_own_if 42 _ rfl (by rfl) _ rfl d _ Tryd.underlying42 rfl (by kernel_rfl) ?_))
  go_ret
  exact ⟨rfl, hk⟩
theorem cascadeLast_walk (wm di : Int) (v : Value) (n : Nat) (P : Nat → Int) (T : Nat → ByteArray) (va pa : Int) (w : World) (hv : RV 2 w v n (declC P T)) (hb : n ≤ 5864062014634) (hT : ∀ i, i < n → (T i).size ≤ 140737488355328) (ht : TabN w) (hp : Pow w) :
    Calls Tryd.prog 6 #[modeV wm di, v, .int .i64 va, .int .i64 pa] w fun e w' => e = .returned (.bool true) ∧ Kept w w' := by
  obtain ⟨sl, cap, rfl⟩ := hv.shape
  obtain ⟨q, hq, q0, q1⟩ := masked va 12 4095 rfl (by decide)
  obtain ⟨j, hj, j0, j1⟩ := urest2 pa 29 (by decide)
  obtain ⟨j, rfl⟩ := Int.eq_ofNat_of_zero_le j0
  obtain ⟨q, rfl⟩ := Int.eq_ofNat_of_zero_le q0
  by_cases h16 : n < 16
  · cases hd : declsB wm di n P with
    | false => exact cascadeLast_bad wm di va pa sl n cap P T w hv hT ht hp h16 hd
    | true => exact cascadeLast_ok wm di va pa sl n cap P T w hv hT ht hp q j hq (by omega) hj (by omega) h16 hd
  · exact cascadeLast_many wm di va pa sl n cap P T w hv hT ht hp (by omega)
end Go.Proofs.YtnbagilcbngdcaaDoor
