/- Layer 18: the document's Flow. -/
import Derived.Test.YtkdidhhilcamkaaFlow
import Derived.Test.YtkdidhhilcamkaaRefOffset
import Derived.Test.YtkdidhhilcamkaaRefBreak
import Derived.Test.YtkdidhhilcamkaaRefPlace
import Derived.Deep.CutRange
import Derived.BigRegion
namespace Go.Proofs.Ytkdidhhilcamkaa
open Go.RowKit Go.Deep
set_option linter.unusedSimpArgs false
set_option linter.unusedVariables false
theorem sizeS_plain {how W D : Int} {many last : Bool} (h : how ≠ 3 ∨ many = false ∨ last = true) : sizeS how W D many last = D := by
  unfold sizeS
  rw [if_neg]
  rcases h with h | h | h
  · simp [h]
  · simp [h]
  · simp [h]
theorem sizeS_just {W D : Int} : sizeS 3 W D true false = max D W := rfl
set_option maxRecDepth 20000 in
set_option maxHeartbeats 8000000 in
theorem refFlow_good (vw : Value) (m : Nat) (S : Nat → ByteArray) (A G : Nat → Int) (how : Int) (v : Value) (n : Nat) (Z : Nat → Nat → Int) (room y : Int) (w : World) (hw : WV w vw m S A G) (hv : RV 5 w v n (intC Z)) (F : Flw) (hF : F = ⟨excOf Z, n, room, A, m, how, y⟩) (hgB : flowB F = true) (hmn : m ≤ 4398046510976) (hnn : n ≤ 4611686018427387904) :
    Calls Try.prog 22 #[vw, .int .i64 how, v, .int .i64 room, .int .i64 y] w (FlowAll F w) := by
  have hg := (flowB_good hgB).1
  have hx := hg.x
  have hmw := hg.w
  subst hF
  dsimp only at hx hmw
  obtain ⟨hr, h32, hall⟩ := mayX_true.1 hx
  obtain ⟨h80, hallW⟩ := mayW_true.1 hmw
  generalize hF : (⟨excOf Z, n, room, A, m, how, y⟩ : Flw) = F at *
  have HB := Lib.hid (fun wx (hx' : RV 5 wx v n (intC Z)) y (hy : 0 ≤ y ∧ y ≤ 1073741824) => (show Calls Try.prog 37 #[v, .int .i64 room, .int .i64 y, .int .i64 640] wx (fun e w' => e = .returned (.tuple #[.int .i64 (F.p y), .int .i64 (F.q y)]) ∧ Kept wx w') from by subst hF; exact refBandS_any v n Z room y 640 wx hx' hx hy (by omega)))
  have HAny := Lib.hid (fun wx (hx' : RV 5 wx v n (intC Z)) y (hy : 0 ≤ y ∧ y ≤ 1073741824) => refAlone_any v n Z y 640 wx hx' h32 hall hy (by omega))
  have HN := Lib.hid (fun wx (hx' : RV 5 wx v n (intC Z)) y => refNext_any v n Z y wx hx' h32 hall)
  have HFill := Lib.hid (fun wx (hx' : WV wx vw m S A G) (i : Nat) yy (hi : i < m) => (show Calls Try.prog 45 #[vw, .int .i64 (i : Nat), .int .i64 (F.q yy - F.p yy)] wx (fun e w' => e = .returned (.tuple #[lineV i (i + F.k i yy + 1 : Nat) (wid A i (F.k i yy)), .int .i64 0]) ∧ Kept wx w') from by
    have hb := hg.band yy
    have := refLFill_good vw m S A G wx hx' i (F.q yy - F.p yy) hi hmw (mayB_true.2 (by omega))
    subst hF
    exact this))
  have HA := Lib.hid (fun i hi => allB_yes hallW i hi)
  have Hbd := Lib.hid (fun y => hg.band y)
  have hm' : F.m = m := by subst hF; rfl
  have hA' : F.A = A := by subst hF; rfl
  have hhow : F.how = how := by subst hF; rfl
  have hfit : ∀ i yy, fitsB F.E F.room F.n (F.A i) 640 yy = (decide (A i ≤ F.q yy - F.p yy) || !anyE (excOf Z) yy 640 n) := by subst hF; exact fun _ _ => rfl
  have hnext : ∀ yy, nextS F.E yy F.n = nextS (excOf Z) yy n := by subst hF; exact fun _ => rfl
  have hless : ∀ yy, anyE (excOf Z) yy 640 n = true → cntE (excOf Z) (nextS (excOf Z) yy n).1 n < cntE (excOf Z) yy n := fun yy h => next_less h
  have hcnt : ∀ yy, cntE (excOf Z) yy n ≤ 32 := fun yy => Nat.le_trans (cntE_le _ _ _) h32
  have hst := hg.start
  have hFy : F.y = y := by subst hF; rfl
  have HON := Lib.hid (fun l i yy (o : F.On l i yy) hi hf => o.on hg hi hf)
  have HNX := Lib.hid (fun l i yy (o : F.On l i yy) hi hf => And.intro (o.next hg hi hf) (And.intro (o.cells hi hf) (o.wid hg hi hf)))
  rw [hFy] at hst
  replace hm' := Lib.hid hm'
  replace hA' := Lib.hid hA'
  replace hhow := Lib.hid hhow
  replace hfit := Lib.hid hfit
  replace hnext := Lib.hid hnext
  replace hless := Lib.hid hless
  replace hcnt := Lib.hid hcnt
  have hhow3 := hg.how
  rw [hhow.out] at hhow3
  have hyb := (flowB_good hgB).2
  have hy0 := hg.y.1
  rw [hFy] at hyb hy0
  replace hgB := Lib.hid hgB
  have HMay := Lib.hid hmw
  have HBM := Lib.hid hx
  clear hF hall hallW hx hmw hg hFy
  obtain ⟨o, cap, rfl⟩ := hv.shape
  obtain ⟨ow, capw, rfl⟩ := hw.shape
  obtain ⟨i0, hi0, hz0, hz1, hz2⟩ := info_parts rectsInfo
  have H3 : inB 0 3 how = true := inB_true.2 hhow3
  have H4 : inB 0 4194304 y = true := inB_true.2 ⟨hy0, hyb⟩
  replace H3 := Lib.hid H3
  replace H4 := Lib.hid H4
  have hk : Kept w w := Kept.refl w
  go_enter Try.func22, Try.ntmps22
  go_wp2_with fail
  refine ((show Calls Try.prog 27 #[_] _ (fun e w' => e = .returned (.bool true) ∧ Kept _ w') from by have := refLMay_any _ m S A G _ (hw.kept hk) hmn; rw [HMay.out] at this; exact this)).mono ?_
  rintro e w1 ⟨rfl, hn⟩
  replace hk := hk.trans hn
  clear hn
  go_wp2_with fail
  refine ((show Calls Try.prog 35 #[.int .i64 how, .int .i64 3] _ (fun e w' => e = .returned (.bool true) ∧ _ = w') from by have := upTo11_any how 3 w1; rw [H3.out] at this; exact this)).mono ?_
  rintro e w1 ⟨rfl, rfl⟩
  go_wp2_with fail
  refine ((show Calls Try.prog 19 #[_, .int .i64 room] _ (fun e w' => e = .returned (.bool true) ∧ Kept _ w') from by have := refBandsMay_any _ n Z room _ (hv.kept hk) hnn; rw [HBM.out] at this; exact this)).mono ?_
  rintro e w1 ⟨rfl, hn⟩
  replace hk := hk.trans hn
  clear hn
  go_wp2_with fail
  refine ((show Calls Try.prog 34 #[.int .i64 y] _ (fun e w' => e = .returned (.bool true) ∧ _ = w') from by have := room11_any y w1; rw [H4.out] at this; exact this)).mono ?_
  rintro e w1 ⟨rfl, rfl⟩
  go_wp2
  go_loopw [14, 13, 4] (fun i u y wx => ∃ (l I : Nat) (yy : Int), i = .int .i64 I ∧ y = .int .i64 yy ∧ Hid (F.On l I yy) ∧ OR wx w.heap.size 27 4 u l (flat 4 (intC F.Z) l) ∧ Kept w wx) (fun i _ y _ => (m - (intOf i).toNat) * 33 + cntE (excOf Z) (intOf y) n)
  case atStart => exact ⟨0, 0, y, rfl, rfl, Lib.hid hst, ⟨World.ownsRow_nil _ _ _ _⟩, hk⟩
  case round =>
    clear hk hst
    obtain ⟨l, I, yy, rfl, rfl, ho, hown, hk⟩ := hrel
    have hIm : I ≤ m := by have := ho.out.le; rw [hm'.out] at this; exact this
    have hlI := ho.out.low
    have hy0 := ho.out.y0
    have hy1 := ho.out.y1
    by_cases hlt : I < m
    · have hi1 : (I : Int) < (m : Int) := by omega
      rcases hw.kept hk with ⟨h0, _⟩ | ⟨b, off, c2, hvv, _, hcc, hz⟩
      · omega
      injection hvv with e1 e2 e3
      subst e1 e3
      have hx1 := HA.out I hlt
      have hbd := Hbd.out yy
      obtain ⟨hlo, hhi, hlong⟩ := hbd
      by_cases hfits : A I ≤ F.q yy - F.p yy
      · have hft : fitsB F.E F.room F.n (F.A I) 640 yy = true := by rw [hfit.out, decide_eq_true hfits, Bool.true_or]
        have hon2_hcells_hwid := HNX.out l I yy ho.out (by rw [hm'.out]; exact hlt) hft
        obtain ⟨hon2, hcells, hwid⟩ := hon2_hcells_hwid
        have HF := Lib.hid (fun wx (hx' : WV wx _ m S A G) => HFill.out wx hx' I yy hlt)
        have HBy := Lib.hid (fun wx (hx' : RV 5 wx _ n (intC Z)) => HB.out wx hx' yy (by omega))
        have HNy := Lib.hid (fun wx (hx' : RV 5 wx _ n (intC Z)) => HN.out wx hx' yy)
        rw [hA'.out, hhow.out] at hcells
        rw [hA'.out] at hwid
        replace hon2 := Lib.hid hon2
        obtain ⟨p, hp⟩ : ∃ p, F.p yy = p := ⟨_, rfl⟩
        obtain ⟨q, hq⟩ : ∃ q, F.q yy = q := ⟨_, rfl⟩
        rw [hp, hq] at hcells HF HBy hfits hlo hlong
        rw [hq] at hhi
        obtain ⟨D, hD⟩ : ∃ D, wid A I (F.k I yy) = D := ⟨_, rfl⟩
        obtain ⟨K, hK⟩ : ∃ K, F.k I yy = K := ⟨_, rfl⟩
        rw [hD, hK] at HF hcells
        rw [hK] at hon2
        rw [hD] at hwid
        obtain ⟨T, hT⟩ : ∃ T, I + K + 1 = T := ⟨_, rfl⟩
        rw [hT] at hon2 hcells HF
        have hIT : I < T := by omega
        clear hT
        have hKm : T ≤ m := by have := hon2.out.le; rw [hm'.out] at this; exact this
        rw [hm'.out] at hcells
        obtain ⟨x, hxA⟩ : ∃ x, A I = x := ⟨_, rfl⟩
        rw [hxA] at hx1 hfits
        replace hxA := Lib.hid hxA
        obtain ⟨N, hN⟩ : ∃ N, nextS (excOf Z) yy n = N := ⟨_, rfl⟩
        rw [hN] at HNy
        obtain ⟨N1, N2⟩ := N
        dsimp only at HNy
        have ho1 := offS_bd (how := how) (room := q - p) (adv := D) (by omega) hwid
        have HO := Lib.hid (fun wx => refOffset_any how (q - p) D wx)
        generalize offS how (q - p) D = oo at *
        obtain ⟨o1, o2⟩ := oo
        dsimp only at ho1 HO hcells
        have hw1 : IntKind.i64.wrap (p + o1) = p + o1 := IntWalk.i64_in _ (by omega)
        clear hp hq hD hK hN HFill HB HAny HN HA Hbd HON HNX hfit hnext hless hft ho
        rcases (by omega : how ≠ 3 ∨ how = 3) with h3 | rfl
        · have h3' : (how == 3) = false := by simpa using h3
          rw [sizeS_plain (.inl h3)] at hcells
          clear h3
          replace hcells := Lib.hid hcells
          go_wp2_with fail
          refine (HBy.out _ (hv.kept hk)).mono ?_
          rintro e w1 ⟨rfl, hn⟩
          replace hk := hk.trans hn
          replace hown := hown.kept hn
          replace hz := hz.kept hn
          clear hn
          go_wp2_with fail
          refine (HNy.out _ (hv.kept hk)).mono ?_
          rintro e w1 ⟨rfl, hn⟩
          replace hk := hk.trans hn
          replace hown := hown.kept hn
          replace hz := hz.kept hn
          clear hn
          have c1 : w1.cell? ⟨b, off + I * 3 + 1, none⟩ = some (.int .i64 x) := by rw [← hxA.out]; exact hz.adv I hlt
          go_wp2_with fail
          refine (HF.out _ (hw.kept hk)).mono ?_
          rintro e w1 ⟨rfl, hn⟩
          replace hk := hk.trans hn
          replace hown := hown.kept hn
          replace hz := hz.kept hn
          clear hn
          have hrow := hown.own.lt
          go_wp2_with fail
          refine with_boxes1 ?_
          intro X hX ln
          have hsz := hk.size
          replace hk := hk.trans hX
          replace hown := hown.kept hX
          replace hz := hz.kept hX
          clear hX
          replace ln_l := ln.lt
          replace ln_0 := ln.at 0 _ rfl
          replace ln_1 := ln.at 1 _ rfl
          replace ln_2 := ln.at 2 _ rfl
          refine (HO.out _).mono ?_
          rintro e w1 ⟨rfl, hn⟩
          replace hk := hk.trans hn
          replace hown := hown.kept hn
          replace hz := hz.kept hn
          replace ln := ln.kept hn
          clear hn
          replace ln_l := ln.lt
          replace ln_0 := ln.at 0 _ rfl
          replace ln_1 := ln.at 1 _ rfl
          replace ln_2 := ln.at 2 _ rfl
          go_wp2_with (at_builtin; refine wpList_append_own _ rfl _ _ 48 rfl w.heap.size 27 i0 (.agg #[.int .i64 0, .int .i64 0, .int .i64 0, .int .i64 0]) 4 32 Try.underlying48 hi0 hz0 hz1 hz2 rfl (by decide) _ _ _ rfl (hown.own.alloc _) ⟨w1.heap.size, 0, none⟩ 1 1 [.int .i64 (p + o1), .int .i64 yy, .int .i64 D, .int .i64 640] rfl rfl (lit_cells w1 #[.int .i64 (p + o1), .int .i64 yy, .int .i64 D, .int .i64 640] 27) (by simp [Value.oneCell']) (by unfold maxLen; omega) (by omega) (by simp; omega) ?_; intro v2 w2 hown2 hg2 _; have c4 := (((ln.alloc _).grown hg2 (fun k hk' => (hrow k hk').2)).at 1 _ rfl))
          go_roundw
          case rel => exact ⟨l + 1, _, yy + 640, rfl, by first | rfl | go_num, hon2, ⟨by rw [← flat_four hcells.out]; exact hown2⟩, (hk.alloc _).grown hg2 (row_ge hown.own)⟩
          case measure => simp [intOf]; have := hcnt.out (yy + 640); omega
        · rcases (by omega : T ≤ I + 1 ∨ I + 1 < T) with hmany | hmany
          · rw [sizeS_plain (.inr (.inl (decide_eq_false (by omega))))] at hcells
            have hm1 : (T : Int) - (I : Int) ≤ 1 := by omega
            clear hmany
            replace hcells := Lib.hid hcells
            go_wp2_with fail
            refine (HBy.out _ (hv.kept hk)).mono ?_
            rintro e w1 ⟨rfl, hn⟩
            replace hk := hk.trans hn
            replace hown := hown.kept hn
            replace hz := hz.kept hn
            clear hn
            go_wp2_with fail
            refine (HNy.out _ (hv.kept hk)).mono ?_
            rintro e w1 ⟨rfl, hn⟩
            replace hk := hk.trans hn
            replace hown := hown.kept hn
            replace hz := hz.kept hn
            clear hn
            have c1 : w1.cell? ⟨b, off + I * 3 + 1, none⟩ = some (.int .i64 x) := by rw [← hxA.out]; exact hz.adv I hlt
            go_wp2_with fail
            refine (HF.out _ (hw.kept hk)).mono ?_
            rintro e w1 ⟨rfl, hn⟩
            replace hk := hk.trans hn
            replace hown := hown.kept hn
            replace hz := hz.kept hn
            clear hn
            have hrow := hown.own.lt
            go_wp2_with fail
            refine with_boxes1 ?_
            intro X hX ln
            have hsz := hk.size
            replace hk := hk.trans hX
            replace hown := hown.kept hX
            replace hz := hz.kept hX
            clear hX
            replace ln_l := ln.lt
            replace ln_0 := ln.at 0 _ rfl
            replace ln_1 := ln.at 1 _ rfl
            replace ln_2 := ln.at 2 _ rfl
            refine (HO.out _).mono ?_
            rintro e w1 ⟨rfl, hn⟩
            replace hk := hk.trans hn
            replace hown := hown.kept hn
            replace hz := hz.kept hn
            replace ln := ln.kept hn
            clear hn
            replace ln_l := ln.lt
            replace ln_0 := ln.at 0 _ rfl
            replace ln_1 := ln.at 1 _ rfl
            replace ln_2 := ln.at 2 _ rfl
            go_wp2_with (at_builtin; refine wpList_append_own _ rfl _ _ 48 rfl w.heap.size 27 i0 (.agg #[.int .i64 0, .int .i64 0, .int .i64 0, .int .i64 0]) 4 32 Try.underlying48 hi0 hz0 hz1 hz2 rfl (by decide) _ _ _ rfl (hown.own.alloc _) ⟨w1.heap.size, 0, none⟩ 1 1 [.int .i64 (p + o1), .int .i64 yy, .int .i64 D, .int .i64 640] rfl rfl (lit_cells w1 #[.int .i64 (p + o1), .int .i64 yy, .int .i64 D, .int .i64 640] 27) (by simp [Value.oneCell']) (by unfold maxLen; omega) (by omega) (by simp; omega) ?_; intro v2 w2 hown2 hg2 _; have c4 := (((ln.alloc _).grown hg2 (fun k hk' => (hrow k hk').2)).at 1 _ rfl))
            go_roundw
            case rel => exact ⟨l + 1, _, yy + 640, rfl, by first | rfl | go_num, hon2, ⟨by rw [← flat_four hcells.out]; exact hown2⟩, (hk.alloc _).grown hg2 (row_ge hown.own)⟩
            case measure => simp [intOf]; have := hcnt.out (yy + 640); omega
          · have hm1 : (1 : Int) < (T : Int) - (I : Int) := by omega
            rcases Nat.eq_or_lt_of_le hKm with rfl | hTm
            · rw [sizeS_plain (.inr (.inr (decide_eq_true rfl)))] at hcells
              replace hcells := Lib.hid hcells
              go_wp2_with fail
              refine (HBy.out _ (hv.kept hk)).mono ?_
              rintro e w1 ⟨rfl, hn⟩
              replace hk := hk.trans hn
              replace hown := hown.kept hn
              replace hz := hz.kept hn
              clear hn
              go_wp2_with fail
              refine (HNy.out _ (hv.kept hk)).mono ?_
              rintro e w1 ⟨rfl, hn⟩
              replace hk := hk.trans hn
              replace hown := hown.kept hn
              replace hz := hz.kept hn
              clear hn
              have c1 : w1.cell? ⟨b, off + I * 3 + 1, none⟩ = some (.int .i64 x) := by rw [← hxA.out]; exact hz.adv I hlt
              go_wp2_with fail
              refine (HF.out _ (hw.kept hk)).mono ?_
              rintro e w1 ⟨rfl, hn⟩
              replace hk := hk.trans hn
              replace hown := hown.kept hn
              replace hz := hz.kept hn
              clear hn
              have hrow := hown.own.lt
              go_wp2_with fail
              refine with_boxes1 ?_
              intro X hX ln
              have hsz := hk.size
              replace hk := hk.trans hX
              replace hown := hown.kept hX
              replace hz := hz.kept hX
              clear hX
              replace ln_l := ln.lt
              replace ln_0 := ln.at 0 _ rfl
              replace ln_1 := ln.at 1 _ rfl
              replace ln_2 := ln.at 2 _ rfl
              refine (HO.out _).mono ?_
              rintro e w1 ⟨rfl, hn⟩
              replace hk := hk.trans hn
              replace hown := hown.kept hn
              replace hz := hz.kept hn
              replace ln := ln.kept hn
              clear hn
              replace ln_l := ln.lt
              replace ln_0 := ln.at 0 _ rfl
              replace ln_1 := ln.at 1 _ rfl
              replace ln_2 := ln.at 2 _ rfl
              go_wp2_with (at_builtin; refine wpList_append_own _ rfl _ _ 48 rfl w.heap.size 27 i0 (.agg #[.int .i64 0, .int .i64 0, .int .i64 0, .int .i64 0]) 4 32 Try.underlying48 hi0 hz0 hz1 hz2 rfl (by decide) _ _ _ rfl (hown.own.alloc _) ⟨w1.heap.size, 0, none⟩ 1 1 [.int .i64 (p + o1), .int .i64 yy, .int .i64 D, .int .i64 640] rfl rfl (lit_cells w1 #[.int .i64 (p + o1), .int .i64 yy, .int .i64 D, .int .i64 640] 27) (by simp [Value.oneCell']) (by unfold maxLen; omega) (by omega) (by simp; omega) ?_; intro v2 w2 hown2 hg2 _; have c4 := (((ln.alloc _).grown hg2 (fun k hk' => (hrow k hk').2)).at 1 _ rfl))
              go_roundw
              case rel => exact ⟨l + 1, _, yy + 640, rfl, by first | rfl | go_num, hon2, ⟨by rw [← flat_four hcells.out]; exact hown2⟩, (hk.alloc _).grown hg2 (row_ge hown.own)⟩
              case measure => simp [intOf]; have := hcnt.out (yy + 640); omega
            · have hTm1 : (T : Int) < (m : Int) := by omega
              rw [show decide (I + 1 < T) = true from decide_eq_true hmany, show decide (T = m) = false from decide_eq_false (by omega), sizeS_just] at hcells
              rcases Int.lt_trichotomy D (q - p) with hd | hd | hd
              · rw [show max D (q - p) = q - p by omega] at hcells
                replace hcells := Lib.hid hcells
                go_wp2_with fail
                refine (HBy.out _ (hv.kept hk)).mono ?_
                rintro e w1 ⟨rfl, hn⟩
                replace hk := hk.trans hn
                replace hown := hown.kept hn
                replace hz := hz.kept hn
                clear hn
                go_wp2_with fail
                refine (HNy.out _ (hv.kept hk)).mono ?_
                rintro e w1 ⟨rfl, hn⟩
                replace hk := hk.trans hn
                replace hown := hown.kept hn
                replace hz := hz.kept hn
                clear hn
                have c1 : w1.cell? ⟨b, off + I * 3 + 1, none⟩ = some (.int .i64 x) := by rw [← hxA.out]; exact hz.adv I hlt
                go_wp2_with fail
                refine (HF.out _ (hw.kept hk)).mono ?_
                rintro e w1 ⟨rfl, hn⟩
                replace hk := hk.trans hn
                replace hown := hown.kept hn
                replace hz := hz.kept hn
                clear hn
                have hrow := hown.own.lt
                go_wp2_with fail
                refine with_boxes1 ?_
                intro X hX ln
                have hsz := hk.size
                replace hk := hk.trans hX
                replace hown := hown.kept hX
                replace hz := hz.kept hX
                clear hX
                replace ln_l := ln.lt
                replace ln_0 := ln.at 0 _ rfl
                replace ln_1 := ln.at 1 _ rfl
                replace ln_2 := ln.at 2 _ rfl
                refine (HO.out _).mono ?_
                rintro e w1 ⟨rfl, hn⟩
                replace hk := hk.trans hn
                replace hown := hown.kept hn
                replace hz := hz.kept hn
                replace ln := ln.kept hn
                clear hn
                replace ln_l := ln.lt
                replace ln_0 := ln.at 0 _ rfl
                replace ln_1 := ln.at 1 _ rfl
                replace ln_2 := ln.at 2 _ rfl
                go_wp2_with (at_builtin; refine wpList_append_own _ rfl _ _ 48 rfl w.heap.size 27 i0 (.agg #[.int .i64 0, .int .i64 0, .int .i64 0, .int .i64 0]) 4 32 Try.underlying48 hi0 hz0 hz1 hz2 rfl (by decide) _ _ _ rfl (hown.own.alloc _) ⟨w1.heap.size, 0, none⟩ 1 1 [.int .i64 (p + o1), .int .i64 yy, .int .i64 (q - p), .int .i64 640] rfl rfl (lit_cells w1 #[.int .i64 (p + o1), .int .i64 yy, .int .i64 (q - p), .int .i64 640] 27) (by simp [Value.oneCell']) (by unfold maxLen; omega) (by omega) (by simp; omega) ?_; intro v2 w2 hown2 hg2 _; have c4 := (((ln.alloc _).grown hg2 (fun k hk' => (hrow k hk').2)).at 1 _ rfl))
                go_roundw
                case rel => exact ⟨l + 1, _, yy + 640, rfl, by first | rfl | go_num, hon2, ⟨by rw [← flat_four hcells.out]; exact hown2⟩, (hk.alloc _).grown hg2 (row_ge hown.own)⟩
                case measure => simp [intOf]; have := hcnt.out (yy + 640); omega
              · rw [show max D (q - p) = q - p by omega] at hcells
                subst hd
                replace hcells := Lib.hid hcells
                go_wp2_with fail
                refine (HBy.out _ (hv.kept hk)).mono ?_
                rintro e w1 ⟨rfl, hn⟩
                replace hk := hk.trans hn
                replace hown := hown.kept hn
                replace hz := hz.kept hn
                clear hn
                go_wp2_with fail
                refine (HNy.out _ (hv.kept hk)).mono ?_
                rintro e w1 ⟨rfl, hn⟩
                replace hk := hk.trans hn
                replace hown := hown.kept hn
                replace hz := hz.kept hn
                clear hn
                have c1 : w1.cell? ⟨b, off + I * 3 + 1, none⟩ = some (.int .i64 x) := by rw [← hxA.out]; exact hz.adv I hlt
                go_wp2_with fail
                refine (HF.out _ (hw.kept hk)).mono ?_
                rintro e w1 ⟨rfl, hn⟩
                replace hk := hk.trans hn
                replace hown := hown.kept hn
                replace hz := hz.kept hn
                clear hn
                have hrow := hown.own.lt
                go_wp2_with fail
                refine with_boxes1 ?_
                intro X hX ln
                have hsz := hk.size
                replace hk := hk.trans hX
                replace hown := hown.kept hX
                replace hz := hz.kept hX
                clear hX
                replace ln_l := ln.lt
                replace ln_0 := ln.at 0 _ rfl
                replace ln_1 := ln.at 1 _ rfl
                replace ln_2 := ln.at 2 _ rfl
                refine (HO.out _).mono ?_
                rintro e w1 ⟨rfl, hn⟩
                replace hk := hk.trans hn
                replace hown := hown.kept hn
                replace hz := hz.kept hn
                replace ln := ln.kept hn
                clear hn
                replace ln_l := ln.lt
                replace ln_0 := ln.at 0 _ rfl
                replace ln_1 := ln.at 1 _ rfl
                replace ln_2 := ln.at 2 _ rfl
                go_wp2_with (at_builtin; refine wpList_append_own _ rfl _ _ 48 rfl w.heap.size 27 i0 (.agg #[.int .i64 0, .int .i64 0, .int .i64 0, .int .i64 0]) 4 32 Try.underlying48 hi0 hz0 hz1 hz2 rfl (by decide) _ _ _ rfl (hown.own.alloc _) ⟨w1.heap.size, 0, none⟩ 1 1 [.int .i64 (p + o1), .int .i64 yy, .int .i64 (q - p), .int .i64 640] rfl rfl (lit_cells w1 #[.int .i64 (p + o1), .int .i64 yy, .int .i64 (q - p), .int .i64 640] 27) (by simp [Value.oneCell']) (by unfold maxLen; omega) (by omega) (by simp; omega) ?_; intro v2 w2 hown2 hg2 _; have c4 := (((ln.alloc _).grown hg2 (fun k hk' => (hrow k hk').2)).at 1 _ rfl))
                go_roundw
                case rel => exact ⟨l + 1, _, yy + 640, rfl, by first | rfl | go_num, hon2, ⟨by rw [← flat_four hcells.out]; exact hown2⟩, (hk.alloc _).grown hg2 (row_ge hown.own)⟩
                case measure => simp [intOf]; have := hcnt.out (yy + 640); omega
              · rw [show max D (q - p) = D by omega] at hcells
                replace hcells := Lib.hid hcells
                go_wp2_with fail
                refine (HBy.out _ (hv.kept hk)).mono ?_
                rintro e w1 ⟨rfl, hn⟩
                replace hk := hk.trans hn
                replace hown := hown.kept hn
                replace hz := hz.kept hn
                clear hn
                go_wp2_with fail
                refine (HNy.out _ (hv.kept hk)).mono ?_
                rintro e w1 ⟨rfl, hn⟩
                replace hk := hk.trans hn
                replace hown := hown.kept hn
                replace hz := hz.kept hn
                clear hn
                have c1 : w1.cell? ⟨b, off + I * 3 + 1, none⟩ = some (.int .i64 x) := by rw [← hxA.out]; exact hz.adv I hlt
                go_wp2_with fail
                refine (HF.out _ (hw.kept hk)).mono ?_
                rintro e w1 ⟨rfl, hn⟩
                replace hk := hk.trans hn
                replace hown := hown.kept hn
                replace hz := hz.kept hn
                clear hn
                have hrow := hown.own.lt
                go_wp2_with fail
                refine with_boxes1 ?_
                intro X hX ln
                have hsz := hk.size
                replace hk := hk.trans hX
                replace hown := hown.kept hX
                replace hz := hz.kept hX
                clear hX
                replace ln_l := ln.lt
                replace ln_0 := ln.at 0 _ rfl
                replace ln_1 := ln.at 1 _ rfl
                replace ln_2 := ln.at 2 _ rfl
                refine (HO.out _).mono ?_
                rintro e w1 ⟨rfl, hn⟩
                replace hk := hk.trans hn
                replace hown := hown.kept hn
                replace hz := hz.kept hn
                replace ln := ln.kept hn
                clear hn
                replace ln_l := ln.lt
                replace ln_0 := ln.at 0 _ rfl
                replace ln_1 := ln.at 1 _ rfl
                replace ln_2 := ln.at 2 _ rfl
                go_wp2_with (at_builtin; refine wpList_append_own _ rfl _ _ 48 rfl w.heap.size 27 i0 (.agg #[.int .i64 0, .int .i64 0, .int .i64 0, .int .i64 0]) 4 32 Try.underlying48 hi0 hz0 hz1 hz2 rfl (by decide) _ _ _ rfl (hown.own.alloc _) ⟨w1.heap.size, 0, none⟩ 1 1 [.int .i64 (p + o1), .int .i64 yy, .int .i64 D, .int .i64 640] rfl rfl (lit_cells w1 #[.int .i64 (p + o1), .int .i64 yy, .int .i64 D, .int .i64 640] 27) (by simp [Value.oneCell']) (by unfold maxLen; omega) (by omega) (by simp; omega) ?_; intro v2 w2 hown2 hg2 _; have c4 := (((ln.alloc _).grown hg2 (fun k hk' => (hrow k hk').2)).at 1 _ rfl))
                go_roundw
                case rel => exact ⟨l + 1, _, yy + 640, rfl, by first | rfl | go_num, hon2, ⟨by rw [← flat_four hcells.out]; exact hown2⟩, (hk.alloc _).grown hg2 (row_ge hown.own)⟩
                case measure => simp [intOf]; have := hcnt.out (yy + 640); omega
      · cases hany : anyE (excOf Z) yy 640 n
        · have hft : fitsB F.E F.room F.n (F.A I) 640 yy = true := by rw [hfit.out, hany, Bool.not_false, Bool.or_true]
          have hon2_hcells_hwid := HNX.out l I yy ho.out (by rw [hm'.out]; exact hlt) hft
          obtain ⟨hon2, hcells, hwid⟩ := hon2_hcells_hwid
          have HF := Lib.hid (fun wx (hx' : WV wx _ m S A G) => HFill.out wx hx' I yy hlt)
          have HBy := Lib.hid (fun wx (hx' : RV 5 wx _ n (intC Z)) => HB.out wx hx' yy (by omega))
          have HNy := Lib.hid (fun wx (hx' : RV 5 wx _ n (intC Z)) => HN.out wx hx' yy)
          have HAy := Lib.hid (fun wx (hx' : RV 5 wx (.slice o n cap) n (intC Z)) => (show Calls Try.prog 38 #[.slice o n cap, .int .i64 yy, .int .i64 640] wx (fun e w' => e = .returned (.bool true) ∧ Kept wx w') from by have := HAny.out wx hx' yy (by omega); rw [hany] at this; exact this))
          rw [hA'.out, hhow.out] at hcells
          rw [hA'.out] at hwid
          replace hon2 := Lib.hid hon2
          obtain ⟨p, hp⟩ : ∃ p, F.p yy = p := ⟨_, rfl⟩
          obtain ⟨q, hq⟩ : ∃ q, F.q yy = q := ⟨_, rfl⟩
          rw [hp, hq] at hcells HF HBy hfits hlo hlong
          rw [hq] at hhi
          obtain ⟨D, hD⟩ : ∃ D, wid A I (F.k I yy) = D := ⟨_, rfl⟩
          obtain ⟨K, hK⟩ : ∃ K, F.k I yy = K := ⟨_, rfl⟩
          rw [hD, hK] at HF hcells
          rw [hK] at hon2
          rw [hD] at hwid
          obtain ⟨T, hT⟩ : ∃ T, I + K + 1 = T := ⟨_, rfl⟩
          rw [hT] at hon2 hcells HF
          have hIT : I < T := by omega
          clear hT
          have hKm : T ≤ m := by have := hon2.out.le; rw [hm'.out] at this; exact this
          rw [hm'.out] at hcells
          obtain ⟨x, hxA⟩ : ∃ x, A I = x := ⟨_, rfl⟩
          rw [hxA] at hx1 hfits
          replace hxA := Lib.hid hxA
          obtain ⟨N, hN⟩ : ∃ N, nextS (excOf Z) yy n = N := ⟨_, rfl⟩
          rw [hN] at HNy
          obtain ⟨N1, N2⟩ := N
          dsimp only at HNy
          have ho1 := offS_bd (how := how) (room := q - p) (adv := D) (by omega) hwid
          have HO := Lib.hid (fun wx => refOffset_any how (q - p) D wx)
          generalize offS how (q - p) D = oo at *
          obtain ⟨o1, o2⟩ := oo
          dsimp only at ho1 HO hcells
          have hw1 : IntKind.i64.wrap (p + o1) = p + o1 := IntWalk.i64_in _ (by omega)
          clear hp hq hD hK hN HFill HB HAny HN HA Hbd HON HNX hfit hnext hless hft ho
          rcases (by omega : how ≠ 3 ∨ how = 3) with h3 | rfl
          · have h3' : (how == 3) = false := by simpa using h3
            rw [sizeS_plain (.inl h3)] at hcells
            clear h3
            replace hcells := Lib.hid hcells
            go_wp2_with fail
            refine (HBy.out _ (hv.kept hk)).mono ?_
            rintro e w1 ⟨rfl, hn⟩
            replace hk := hk.trans hn
            replace hown := hown.kept hn
            replace hz := hz.kept hn
            clear hn
            go_wp2_with fail
            refine (HNy.out _ (hv.kept hk)).mono ?_
            rintro e w1 ⟨rfl, hn⟩
            replace hk := hk.trans hn
            replace hown := hown.kept hn
            replace hz := hz.kept hn
            clear hn
            have c1 : w1.cell? ⟨b, off + I * 3 + 1, none⟩ = some (.int .i64 x) := by rw [← hxA.out]; exact hz.adv I hlt
            go_wp2_with fail
            refine (HAy.out _ (hv.kept hk)).mono ?_
            rintro e w1 ⟨rfl, hn⟩
            replace hk := hk.trans hn
            replace hown := hown.kept hn
            replace hz := hz.kept hn
            clear hn
            go_wp2_with fail
            refine (HF.out _ (hw.kept hk)).mono ?_
            rintro e w1 ⟨rfl, hn⟩
            replace hk := hk.trans hn
            replace hown := hown.kept hn
            replace hz := hz.kept hn
            clear hn
            have hrow := hown.own.lt
            go_wp2_with fail
            refine with_boxes1 ?_
            intro X hX ln
            have hsz := hk.size
            replace hk := hk.trans hX
            replace hown := hown.kept hX
            replace hz := hz.kept hX
            clear hX
            replace ln_l := ln.lt
            replace ln_0 := ln.at 0 _ rfl
            replace ln_1 := ln.at 1 _ rfl
            replace ln_2 := ln.at 2 _ rfl
            refine (HO.out _).mono ?_
            rintro e w1 ⟨rfl, hn⟩
            replace hk := hk.trans hn
            replace hown := hown.kept hn
            replace hz := hz.kept hn
            replace ln := ln.kept hn
            clear hn
            replace ln_l := ln.lt
            replace ln_0 := ln.at 0 _ rfl
            replace ln_1 := ln.at 1 _ rfl
            replace ln_2 := ln.at 2 _ rfl
            go_wp2_with (at_builtin; refine wpList_append_own _ rfl _ _ 48 rfl w.heap.size 27 i0 (.agg #[.int .i64 0, .int .i64 0, .int .i64 0, .int .i64 0]) 4 32 Try.underlying48 hi0 hz0 hz1 hz2 rfl (by decide) _ _ _ rfl (hown.own.alloc _) ⟨w1.heap.size, 0, none⟩ 1 1 [.int .i64 (p + o1), .int .i64 yy, .int .i64 D, .int .i64 640] rfl rfl (lit_cells w1 #[.int .i64 (p + o1), .int .i64 yy, .int .i64 D, .int .i64 640] 27) (by simp [Value.oneCell']) (by unfold maxLen; omega) (by omega) (by simp; omega) ?_; intro v2 w2 hown2 hg2 _; have c4 := (((ln.alloc _).grown hg2 (fun k hk' => (hrow k hk').2)).at 1 _ rfl))
            go_roundw
            case rel => exact ⟨l + 1, _, yy + 640, rfl, by first | rfl | go_num, hon2, ⟨by rw [← flat_four hcells.out]; exact hown2⟩, (hk.alloc _).grown hg2 (row_ge hown.own)⟩
            case measure => simp [intOf]; have := hcnt.out (yy + 640); omega
          · rcases (by omega : T ≤ I + 1 ∨ I + 1 < T) with hmany | hmany
            · rw [sizeS_plain (.inr (.inl (decide_eq_false (by omega))))] at hcells
              have hm1 : (T : Int) - (I : Int) ≤ 1 := by omega
              clear hmany
              replace hcells := Lib.hid hcells
              go_wp2_with fail
              refine (HBy.out _ (hv.kept hk)).mono ?_
              rintro e w1 ⟨rfl, hn⟩
              replace hk := hk.trans hn
              replace hown := hown.kept hn
              replace hz := hz.kept hn
              clear hn
              go_wp2_with fail
              refine (HNy.out _ (hv.kept hk)).mono ?_
              rintro e w1 ⟨rfl, hn⟩
              replace hk := hk.trans hn
              replace hown := hown.kept hn
              replace hz := hz.kept hn
              clear hn
              have c1 : w1.cell? ⟨b, off + I * 3 + 1, none⟩ = some (.int .i64 x) := by rw [← hxA.out]; exact hz.adv I hlt
              go_wp2_with fail
              refine (HAy.out _ (hv.kept hk)).mono ?_
              rintro e w1 ⟨rfl, hn⟩
              replace hk := hk.trans hn
              replace hown := hown.kept hn
              replace hz := hz.kept hn
              clear hn
              go_wp2_with fail
              refine (HF.out _ (hw.kept hk)).mono ?_
              rintro e w1 ⟨rfl, hn⟩
              replace hk := hk.trans hn
              replace hown := hown.kept hn
              replace hz := hz.kept hn
              clear hn
              have hrow := hown.own.lt
              go_wp2_with fail
              refine with_boxes1 ?_
              intro X hX ln
              have hsz := hk.size
              replace hk := hk.trans hX
              replace hown := hown.kept hX
              replace hz := hz.kept hX
              clear hX
              replace ln_l := ln.lt
              replace ln_0 := ln.at 0 _ rfl
              replace ln_1 := ln.at 1 _ rfl
              replace ln_2 := ln.at 2 _ rfl
              refine (HO.out _).mono ?_
              rintro e w1 ⟨rfl, hn⟩
              replace hk := hk.trans hn
              replace hown := hown.kept hn
              replace hz := hz.kept hn
              replace ln := ln.kept hn
              clear hn
              replace ln_l := ln.lt
              replace ln_0 := ln.at 0 _ rfl
              replace ln_1 := ln.at 1 _ rfl
              replace ln_2 := ln.at 2 _ rfl
              go_wp2_with (at_builtin; refine wpList_append_own _ rfl _ _ 48 rfl w.heap.size 27 i0 (.agg #[.int .i64 0, .int .i64 0, .int .i64 0, .int .i64 0]) 4 32 Try.underlying48 hi0 hz0 hz1 hz2 rfl (by decide) _ _ _ rfl (hown.own.alloc _) ⟨w1.heap.size, 0, none⟩ 1 1 [.int .i64 (p + o1), .int .i64 yy, .int .i64 D, .int .i64 640] rfl rfl (lit_cells w1 #[.int .i64 (p + o1), .int .i64 yy, .int .i64 D, .int .i64 640] 27) (by simp [Value.oneCell']) (by unfold maxLen; omega) (by omega) (by simp; omega) ?_; intro v2 w2 hown2 hg2 _; have c4 := (((ln.alloc _).grown hg2 (fun k hk' => (hrow k hk').2)).at 1 _ rfl))
              go_roundw
              case rel => exact ⟨l + 1, _, yy + 640, rfl, by first | rfl | go_num, hon2, ⟨by rw [← flat_four hcells.out]; exact hown2⟩, (hk.alloc _).grown hg2 (row_ge hown.own)⟩
              case measure => simp [intOf]; have := hcnt.out (yy + 640); omega
            · have hm1 : (1 : Int) < (T : Int) - (I : Int) := by omega
              rcases Nat.eq_or_lt_of_le hKm with rfl | hTm
              · rw [sizeS_plain (.inr (.inr (decide_eq_true rfl)))] at hcells
                replace hcells := Lib.hid hcells
                go_wp2_with fail
                refine (HBy.out _ (hv.kept hk)).mono ?_
                rintro e w1 ⟨rfl, hn⟩
                replace hk := hk.trans hn
                replace hown := hown.kept hn
                replace hz := hz.kept hn
                clear hn
                go_wp2_with fail
                refine (HNy.out _ (hv.kept hk)).mono ?_
                rintro e w1 ⟨rfl, hn⟩
                replace hk := hk.trans hn
                replace hown := hown.kept hn
                replace hz := hz.kept hn
                clear hn
                have c1 : w1.cell? ⟨b, off + I * 3 + 1, none⟩ = some (.int .i64 x) := by rw [← hxA.out]; exact hz.adv I hlt
                go_wp2_with fail
                refine (HAy.out _ (hv.kept hk)).mono ?_
                rintro e w1 ⟨rfl, hn⟩
                replace hk := hk.trans hn
                replace hown := hown.kept hn
                replace hz := hz.kept hn
                clear hn
                go_wp2_with fail
                refine (HF.out _ (hw.kept hk)).mono ?_
                rintro e w1 ⟨rfl, hn⟩
                replace hk := hk.trans hn
                replace hown := hown.kept hn
                replace hz := hz.kept hn
                clear hn
                have hrow := hown.own.lt
                go_wp2_with fail
                refine with_boxes1 ?_
                intro X hX ln
                have hsz := hk.size
                replace hk := hk.trans hX
                replace hown := hown.kept hX
                replace hz := hz.kept hX
                clear hX
                replace ln_l := ln.lt
                replace ln_0 := ln.at 0 _ rfl
                replace ln_1 := ln.at 1 _ rfl
                replace ln_2 := ln.at 2 _ rfl
                refine (HO.out _).mono ?_
                rintro e w1 ⟨rfl, hn⟩
                replace hk := hk.trans hn
                replace hown := hown.kept hn
                replace hz := hz.kept hn
                replace ln := ln.kept hn
                clear hn
                replace ln_l := ln.lt
                replace ln_0 := ln.at 0 _ rfl
                replace ln_1 := ln.at 1 _ rfl
                replace ln_2 := ln.at 2 _ rfl
                go_wp2_with (at_builtin; refine wpList_append_own _ rfl _ _ 48 rfl w.heap.size 27 i0 (.agg #[.int .i64 0, .int .i64 0, .int .i64 0, .int .i64 0]) 4 32 Try.underlying48 hi0 hz0 hz1 hz2 rfl (by decide) _ _ _ rfl (hown.own.alloc _) ⟨w1.heap.size, 0, none⟩ 1 1 [.int .i64 (p + o1), .int .i64 yy, .int .i64 D, .int .i64 640] rfl rfl (lit_cells w1 #[.int .i64 (p + o1), .int .i64 yy, .int .i64 D, .int .i64 640] 27) (by simp [Value.oneCell']) (by unfold maxLen; omega) (by omega) (by simp; omega) ?_; intro v2 w2 hown2 hg2 _; have c4 := (((ln.alloc _).grown hg2 (fun k hk' => (hrow k hk').2)).at 1 _ rfl))
                go_roundw
                case rel => exact ⟨l + 1, _, yy + 640, rfl, by first | rfl | go_num, hon2, ⟨by rw [← flat_four hcells.out]; exact hown2⟩, (hk.alloc _).grown hg2 (row_ge hown.own)⟩
                case measure => simp [intOf]; have := hcnt.out (yy + 640); omega
              · have hTm1 : (T : Int) < (m : Int) := by omega
                rw [show decide (I + 1 < T) = true from decide_eq_true hmany, show decide (T = m) = false from decide_eq_false (by omega), sizeS_just] at hcells
                rcases Int.lt_trichotomy D (q - p) with hd | hd | hd
                · rw [show max D (q - p) = q - p by omega] at hcells
                  replace hcells := Lib.hid hcells
                  go_wp2_with fail
                  refine (HBy.out _ (hv.kept hk)).mono ?_
                  rintro e w1 ⟨rfl, hn⟩
                  replace hk := hk.trans hn
                  replace hown := hown.kept hn
                  replace hz := hz.kept hn
                  clear hn
                  go_wp2_with fail
                  refine (HNy.out _ (hv.kept hk)).mono ?_
                  rintro e w1 ⟨rfl, hn⟩
                  replace hk := hk.trans hn
                  replace hown := hown.kept hn
                  replace hz := hz.kept hn
                  clear hn
                  have c1 : w1.cell? ⟨b, off + I * 3 + 1, none⟩ = some (.int .i64 x) := by rw [← hxA.out]; exact hz.adv I hlt
                  go_wp2_with fail
                  refine (HAy.out _ (hv.kept hk)).mono ?_
                  rintro e w1 ⟨rfl, hn⟩
                  replace hk := hk.trans hn
                  replace hown := hown.kept hn
                  replace hz := hz.kept hn
                  clear hn
                  go_wp2_with fail
                  refine (HF.out _ (hw.kept hk)).mono ?_
                  rintro e w1 ⟨rfl, hn⟩
                  replace hk := hk.trans hn
                  replace hown := hown.kept hn
                  replace hz := hz.kept hn
                  clear hn
                  have hrow := hown.own.lt
                  go_wp2_with fail
                  refine with_boxes1 ?_
                  intro X hX ln
                  have hsz := hk.size
                  replace hk := hk.trans hX
                  replace hown := hown.kept hX
                  replace hz := hz.kept hX
                  clear hX
                  replace ln_l := ln.lt
                  replace ln_0 := ln.at 0 _ rfl
                  replace ln_1 := ln.at 1 _ rfl
                  replace ln_2 := ln.at 2 _ rfl
                  refine (HO.out _).mono ?_
                  rintro e w1 ⟨rfl, hn⟩
                  replace hk := hk.trans hn
                  replace hown := hown.kept hn
                  replace hz := hz.kept hn
                  replace ln := ln.kept hn
                  clear hn
                  replace ln_l := ln.lt
                  replace ln_0 := ln.at 0 _ rfl
                  replace ln_1 := ln.at 1 _ rfl
                  replace ln_2 := ln.at 2 _ rfl
                  go_wp2_with (at_builtin; refine wpList_append_own _ rfl _ _ 48 rfl w.heap.size 27 i0 (.agg #[.int .i64 0, .int .i64 0, .int .i64 0, .int .i64 0]) 4 32 Try.underlying48 hi0 hz0 hz1 hz2 rfl (by decide) _ _ _ rfl (hown.own.alloc _) ⟨w1.heap.size, 0, none⟩ 1 1 [.int .i64 (p + o1), .int .i64 yy, .int .i64 (q - p), .int .i64 640] rfl rfl (lit_cells w1 #[.int .i64 (p + o1), .int .i64 yy, .int .i64 (q - p), .int .i64 640] 27) (by simp [Value.oneCell']) (by unfold maxLen; omega) (by omega) (by simp; omega) ?_; intro v2 w2 hown2 hg2 _; have c4 := (((ln.alloc _).grown hg2 (fun k hk' => (hrow k hk').2)).at 1 _ rfl))
                  go_roundw
                  case rel => exact ⟨l + 1, _, yy + 640, rfl, by first | rfl | go_num, hon2, ⟨by rw [← flat_four hcells.out]; exact hown2⟩, (hk.alloc _).grown hg2 (row_ge hown.own)⟩
                  case measure => simp [intOf]; have := hcnt.out (yy + 640); omega
                · rw [show max D (q - p) = q - p by omega] at hcells
                  subst hd
                  replace hcells := Lib.hid hcells
                  go_wp2_with fail
                  refine (HBy.out _ (hv.kept hk)).mono ?_
                  rintro e w1 ⟨rfl, hn⟩
                  replace hk := hk.trans hn
                  replace hown := hown.kept hn
                  replace hz := hz.kept hn
                  clear hn
                  go_wp2_with fail
                  refine (HNy.out _ (hv.kept hk)).mono ?_
                  rintro e w1 ⟨rfl, hn⟩
                  replace hk := hk.trans hn
                  replace hown := hown.kept hn
                  replace hz := hz.kept hn
                  clear hn
                  have c1 : w1.cell? ⟨b, off + I * 3 + 1, none⟩ = some (.int .i64 x) := by rw [← hxA.out]; exact hz.adv I hlt
                  go_wp2_with fail
                  refine (HAy.out _ (hv.kept hk)).mono ?_
                  rintro e w1 ⟨rfl, hn⟩
                  replace hk := hk.trans hn
                  replace hown := hown.kept hn
                  replace hz := hz.kept hn
                  clear hn
                  go_wp2_with fail
                  refine (HF.out _ (hw.kept hk)).mono ?_
                  rintro e w1 ⟨rfl, hn⟩
                  replace hk := hk.trans hn
                  replace hown := hown.kept hn
                  replace hz := hz.kept hn
                  clear hn
                  have hrow := hown.own.lt
                  go_wp2_with fail
                  refine with_boxes1 ?_
                  intro X hX ln
                  have hsz := hk.size
                  replace hk := hk.trans hX
                  replace hown := hown.kept hX
                  replace hz := hz.kept hX
                  clear hX
                  replace ln_l := ln.lt
                  replace ln_0 := ln.at 0 _ rfl
                  replace ln_1 := ln.at 1 _ rfl
                  replace ln_2 := ln.at 2 _ rfl
                  refine (HO.out _).mono ?_
                  rintro e w1 ⟨rfl, hn⟩
                  replace hk := hk.trans hn
                  replace hown := hown.kept hn
                  replace hz := hz.kept hn
                  replace ln := ln.kept hn
                  clear hn
                  replace ln_l := ln.lt
                  replace ln_0 := ln.at 0 _ rfl
                  replace ln_1 := ln.at 1 _ rfl
                  replace ln_2 := ln.at 2 _ rfl
                  go_wp2_with (at_builtin; refine wpList_append_own _ rfl _ _ 48 rfl w.heap.size 27 i0 (.agg #[.int .i64 0, .int .i64 0, .int .i64 0, .int .i64 0]) 4 32 Try.underlying48 hi0 hz0 hz1 hz2 rfl (by decide) _ _ _ rfl (hown.own.alloc _) ⟨w1.heap.size, 0, none⟩ 1 1 [.int .i64 (p + o1), .int .i64 yy, .int .i64 (q - p), .int .i64 640] rfl rfl (lit_cells w1 #[.int .i64 (p + o1), .int .i64 yy, .int .i64 (q - p), .int .i64 640] 27) (by simp [Value.oneCell']) (by unfold maxLen; omega) (by omega) (by simp; omega) ?_; intro v2 w2 hown2 hg2 _; have c4 := (((ln.alloc _).grown hg2 (fun k hk' => (hrow k hk').2)).at 1 _ rfl))
                  go_roundw
                  case rel => exact ⟨l + 1, _, yy + 640, rfl, by first | rfl | go_num, hon2, ⟨by rw [← flat_four hcells.out]; exact hown2⟩, (hk.alloc _).grown hg2 (row_ge hown.own)⟩
                  case measure => simp [intOf]; have := hcnt.out (yy + 640); omega
                · rw [show max D (q - p) = D by omega] at hcells
                  replace hcells := Lib.hid hcells
                  go_wp2_with fail
                  refine (HBy.out _ (hv.kept hk)).mono ?_
                  rintro e w1 ⟨rfl, hn⟩
                  replace hk := hk.trans hn
                  replace hown := hown.kept hn
                  replace hz := hz.kept hn
                  clear hn
                  go_wp2_with fail
                  refine (HNy.out _ (hv.kept hk)).mono ?_
                  rintro e w1 ⟨rfl, hn⟩
                  replace hk := hk.trans hn
                  replace hown := hown.kept hn
                  replace hz := hz.kept hn
                  clear hn
                  have c1 : w1.cell? ⟨b, off + I * 3 + 1, none⟩ = some (.int .i64 x) := by rw [← hxA.out]; exact hz.adv I hlt
                  go_wp2_with fail
                  refine (HAy.out _ (hv.kept hk)).mono ?_
                  rintro e w1 ⟨rfl, hn⟩
                  replace hk := hk.trans hn
                  replace hown := hown.kept hn
                  replace hz := hz.kept hn
                  clear hn
                  go_wp2_with fail
                  refine (HF.out _ (hw.kept hk)).mono ?_
                  rintro e w1 ⟨rfl, hn⟩
                  replace hk := hk.trans hn
                  replace hown := hown.kept hn
                  replace hz := hz.kept hn
                  clear hn
                  have hrow := hown.own.lt
                  go_wp2_with fail
                  refine with_boxes1 ?_
                  intro X hX ln
                  have hsz := hk.size
                  replace hk := hk.trans hX
                  replace hown := hown.kept hX
                  replace hz := hz.kept hX
                  clear hX
                  replace ln_l := ln.lt
                  replace ln_0 := ln.at 0 _ rfl
                  replace ln_1 := ln.at 1 _ rfl
                  replace ln_2 := ln.at 2 _ rfl
                  refine (HO.out _).mono ?_
                  rintro e w1 ⟨rfl, hn⟩
                  replace hk := hk.trans hn
                  replace hown := hown.kept hn
                  replace hz := hz.kept hn
                  replace ln := ln.kept hn
                  clear hn
                  replace ln_l := ln.lt
                  replace ln_0 := ln.at 0 _ rfl
                  replace ln_1 := ln.at 1 _ rfl
                  replace ln_2 := ln.at 2 _ rfl
                  go_wp2_with (at_builtin; refine wpList_append_own _ rfl _ _ 48 rfl w.heap.size 27 i0 (.agg #[.int .i64 0, .int .i64 0, .int .i64 0, .int .i64 0]) 4 32 Try.underlying48 hi0 hz0 hz1 hz2 rfl (by decide) _ _ _ rfl (hown.own.alloc _) ⟨w1.heap.size, 0, none⟩ 1 1 [.int .i64 (p + o1), .int .i64 yy, .int .i64 D, .int .i64 640] rfl rfl (lit_cells w1 #[.int .i64 (p + o1), .int .i64 yy, .int .i64 D, .int .i64 640] 27) (by simp [Value.oneCell']) (by unfold maxLen; omega) (by omega) (by simp; omega) ?_; intro v2 w2 hown2 hg2 _; have c4 := (((ln.alloc _).grown hg2 (fun k hk' => (hrow k hk').2)).at 1 _ rfl))
                  go_roundw
                  case rel => exact ⟨l + 1, _, yy + 640, rfl, by first | rfl | go_num, hon2, ⟨by rw [← flat_four hcells.out]; exact hown2⟩, (hk.alloc _).grown hg2 (row_ge hown.own)⟩
                  case measure => simp [intOf]; have := hcnt.out (yy + 640); omega
        · have hft : fitsB F.E F.room F.n (F.A I) 640 yy = false := by rw [hfit.out, decide_eq_false hfits, hany]; rfl
          have hon2 := HON.out l I yy ho.out (by rw [hm'.out]; exact hlt) hft
          have hls := hless.out yy hany
          rw [hnext.out] at hon2
          replace hon2 := Lib.hid hon2
          have HBy := Lib.hid (fun wx (hx' : RV 5 wx (.slice o n cap) n (intC Z)) => HB.out wx hx' yy (by omega))
          have HNy := Lib.hid (fun wx (hx' : RV 5 wx (.slice o n cap) n (intC Z)) => HN.out wx hx' yy)
          have HAy := Lib.hid (fun wx (hx' : RV 5 wx (.slice o n cap) n (intC Z)) => (show Calls Try.prog 38 #[.slice o n cap, .int .i64 yy, .int .i64 640] wx (fun e w' => e = .returned (.bool false) ∧ Kept wx w') from by have := HAny.out wx hx' yy (by omega); rw [hany] at this; exact this))
          obtain ⟨p, hp⟩ : ∃ p, F.p yy = p := ⟨_, rfl⟩
          obtain ⟨q, hq⟩ : ∃ q, F.q yy = q := ⟨_, rfl⟩
          rw [hp, hq] at HBy hfits hlo hlong
          rw [hq] at hhi
          have hmore : (nextS (excOf Z) yy n).2 = true := (nextS_is n (anyE_ends hany)).1
          obtain ⟨N, hN⟩ : ∃ N, nextS (excOf Z) yy n = N := ⟨_, rfl⟩
          rw [hN] at hon2 hls HNy hmore
          obtain ⟨N1, N2⟩ := N
          dsimp only at hon2 hls HNy hmore
          subst hmore
          obtain ⟨x, hxA⟩ : ∃ x, A I = x := ⟨_, rfl⟩
          rw [hxA] at hx1 hfits
          replace hxA := Lib.hid hxA
          have hfits2 : q - p < x := by omega
          clear hp hq hN HFill HB HAny HN HA Hbd HON HNX hfit hnext hless hft ho hfits hany
          go_wp2_with fail
          refine (HBy.out _ (hv.kept hk)).mono ?_
          rintro e w1 ⟨rfl, hn⟩
          replace hk := hk.trans hn
          replace hown := hown.kept hn
          replace hz := hz.kept hn
          clear hn
          go_wp2_with fail
          refine (HNy.out _ (hv.kept hk)).mono ?_
          rintro e w1 ⟨rfl, hn⟩
          replace hk := hk.trans hn
          replace hown := hown.kept hn
          replace hz := hz.kept hn
          clear hn
          have c1 : w1.cell? ⟨b, off + I * 3 + 1, none⟩ = some (.int .i64 x) := by rw [← hxA.out]; exact hz.adv I hlt
          go_wp2_with fail
          refine (HAy.out _ (hv.kept hk)).mono ?_
          rintro e w1 ⟨rfl, hn⟩
          replace hk := hk.trans hn
          replace hown := hown.kept hn
          replace hz := hz.kept hn
          clear hn
          go_wp2
          go_roundw
          case rel => exact ⟨l, I, N1, rfl, rfl, hon2, hown, hk⟩
          case measure => simp [intOf]; omega
    · obtain rfl : I = m := by omega
      have hi1 : (I : Int) ≤ (I : Int) := by omega
      have hend : yy = (F.at l).2 := ho.out.stay hm'.out.symm
      have hat : (F.at l).1 = F.m := by rw [ho.out.at_, hm'.out]
      subst hend
      have Hat := Lib.hid hat
      clear hat
      go_wp2
      go_ret3
      exact flowAll_yes hgB.out Hat.out (newRow_of hown.own) hk
end Go.Proofs.Ytkdidhhilcamkaa
