/- Layer 18: beside.Flow. -/
import Derived.Test.YtkonpnaedniceaaFlowS
import Derived.Deep.CutRange
import Derived.BigRegion
namespace Go.Proofs.Ytkonpnaedniceaa
open Go.RowKit Go.Deep
set_option linter.unusedSimpArgs false
set_option linter.unusedVariables false
/-- where a walk over the words stands: at line l, at word i, trying yy -/
structure Flw.On (F : Flw) (l i : Nat) (yy : Int) : Prop where
  at_ : (F.at l).1 = i
  le : i ≤ F.m
  y0 : 0 ≤ yy
  y1 : yy ≤ 1048576000 + 640 * (l : Int)
  go : i < F.m → F.set i yy = F.L l
  stay : i = F.m → yy = (F.at l).2
theorem Flw.Good.start {F : Flw} (h : F.Good) : F.On 0 0 F.y := ⟨rfl, Nat.zero_le _, h.y.1, by have := h.y.2; omega, fun _ => rfl, fun _ => rfl⟩
theorem Flw.On.low {F : Flw} {l i : Nat} {yy : Int} (o : F.On l i yy) : l ≤ i := by have := F.ge l; have := o.at_; omega
/-- it doesn't fit: on to where the next one ends -/
theorem Flw.On.on {F : Flw} (h : F.Good) {l i : Nat} {yy : Int} (o : F.On l i yy) (hi : i < F.m) (hf : fitsB F.E F.room F.n (F.A i) 640 yy = false) : F.On l i (nextS F.E yy F.n).1 := by
  obtain ⟨hr, _, ha⟩ := mayX_true.1 h.x
  obtain ⟨h1, h2, ⟨k, hk, h3⟩, _⟩ := nextS_is F.n (anyE_ends (fits_any hf))
  have hb := excB_parts (allE_yes ha k hk)
  have := o.y0
  refine ⟨o.at_, o.le, by omega, ?_, fun _ => ?_, fun he => by omega⟩
  · rw [h3]; unfold endS; omega
  · rw [← o.go hi]; unfold Flw.set; exact (settle_not hf).symm
/-- it fits: the line stands there -/
theorem Flw.On.is {F : Flw} {l i : Nat} {yy : Int} (o : F.On l i yy) (hi : i < F.m) (hf : fitsB F.E F.room F.n (F.A i) 640 yy = true) : F.L l = yy := by
  rw [← o.go hi]; exact settle_fits hf
theorem Flw.On.next {F : Flw} (h : F.Good) {l i : Nat} {yy : Int} (o : F.On l i yy) (hi : i < F.m) (hf : fitsB F.E F.room F.n (F.A i) 640 yy = true) : F.On (l + 1) (i + F.k i yy + 1) (yy + 640) := by
  have hL := o.is hi hf
  have hat := o.at_
  have e : F.at (l + 1) = (i + F.k i yy + 1, yy + 640) := by rw [F.at_next, hat, hL]
  have hle := F.next_le (l := l) (by omega)
  have h0 := o.y0
  have h1 := o.y1
  refine ⟨by rw [e], by rw [e] at hle; exact hle, by omega, by omega, fun _ => ?_, fun _ => by rw [e]⟩
  unfold Flw.L
  rw [e]
/-- the cells of the line that is laid -/
theorem Flw.On.cells {F : Flw} {l i : Nat} {yy : Int} (o : F.On l i yy) (hi : i < F.m) (hf : fitsB F.E F.room F.n (F.A i) 640 yy = true) :
    F.Z l 0 = F.p yy + (offS F.how (F.q yy - F.p yy) (wid F.A i (F.k i yy))).1 ∧ F.Z l 1 = yy ∧ F.Z l 2 = sizeS F.how (F.q yy - F.p yy) (wid F.A i (F.k i yy)) (decide (i + 1 < i + F.k i yy + 1)) (decide (i + F.k i yy + 1 = F.m)) ∧ F.Z l 3 = 640 := by
  have hL := o.is hi hf
  have hat := o.at_
  have e : F.at (l + 1) = (i + F.k i yy + 1, yy + 640) := by rw [F.at_next, hat, hL]
  refine ⟨?_, hL, ?_, rfl⟩
  · show F.ai l = _
    unfold Flw.ai Flw.adv
    rw [hL, hat]
  · show F.si l = _
    unfold Flw.si Flw.adv
    rw [hL, hat, e]
    congr 1
    rw [decide_eq_decide]
    omega
theorem Flw.On.wid {F : Flw} (h : F.Good) {l i : Nat} {yy : Int} (o : F.On l i yy) (hi : i < F.m) (hf : fitsB F.E F.room F.n (F.A i) 640 yy = true) : 0 ≤ Go.Proofs.Ytkonpnaedniceaa.wid F.A i (F.k i yy) ∧ Go.Proofs.Ytkonpnaedniceaa.wid F.A i (F.k i yy) ≤ 1073741824 := by
  have := h.adv_bd (l := l) (by have := o.at_; omega)
  unfold Flw.adv at this
  rw [o.is hi hf, o.at_] at this
  exact this
theorem flat_four {Z : Nat → Nat → Int} {l : Nat} {a b c d : Int} (h : Z l 0 = a ∧ Z l 1 = b ∧ Z l 2 = c ∧ Z l 3 = d) : flat 4 (intC Z) l ++ [.int .i64 a, .int .i64 b, .int .i64 c, .int .i64 d] = flat 4 (intC Z) (l + 1) := by
  obtain ⟨rfl, rfl, rfl, rfl⟩ := h
  rfl
/-- the answer of a flow that may be: how many lines there are -/
def FlowPost (F : Flw) (w : World) (e : Ending) (w' : World) : Prop := ∃ l u, (F.at l).1 = F.m ∧ e = .returned (.tuple #[u, .int .i64 (F.at l).2]) ∧ NewRow 41 4 w w' u l (intC F.Z) ∧ Kept w w'
set_option maxRecDepth 20000 in
set_option maxHeartbeats 8000000 in
theorem besideFlow_any (vw : Value) (m : Nat) (S : Nat → ByteArray) (A G : Nat → Int) (how : Int) (v : Value) (n : Nat) (Z : Nat → Nat → Int) (room y : Int) (w : World) (hw : WV w vw m S A G) (hv : RV 5 w v n (intC Z)) (F : Flw) (hF : F = ⟨excOf Z, n, room, A, m, how, y⟩) (hg : F.Good) :
    Calls Try.prog 22 #[vw, .int .i64 how, v, .int .i64 room, .int .i64 y] w (FlowPost F w) := by
  have hx := hg.x
  have hmw := hg.w
  subst hF
  dsimp only at hx hmw
  obtain ⟨hr, h32, hall⟩ := mayX_true.1 hx
  obtain ⟨h80, hallW⟩ := mayW_true.1 hmw
  generalize hF : (⟨excOf Z, n, room, A, m, how, y⟩ : Flw) = F at *
  have HB := Lib.hid (fun wx (hx' : RV 5 wx v n (intC Z)) y (hy : 0 ≤ y ∧ y ≤ 1073741824) => (show Calls Try.prog 29 #[v, .int .i64 room, .int .i64 y, .int .i64 640] wx (fun e w' => e = .returned (.tuple #[.int .i64 (F.p y), .int .i64 (F.q y)]) ∧ Kept wx w') from by subst hF; exact besideBand_any v n Z room y 640 wx hx' hx hy (by omega)))
  have HAny := Lib.hid (fun wx (hx' : RV 5 wx v n (intC Z)) y (hy : 0 ≤ y ∧ y ≤ 1073741824) => besideAny_any v n Z y 640 wx hx' h32 hall hy (by omega))
  have HN := Lib.hid (fun wx (hx' : RV 5 wx v n (intC Z)) y => besideNext_any v n Z y wx hx' h32 hall)
  have HFill := Lib.hid (fun wx (hx' : WV wx vw m S A G) (i : Nat) yy (hi : i < m) => (show Calls Try.prog 8 #[vw, .int .i64 (i : Nat), .int .i64 (F.q yy - F.p yy)] wx (fun e w' => e = .returned (.tuple #[lineV i (i + F.k i yy + 1 : Nat) (wid A i (F.k i yy)), .int .i64 0]) ∧ Kept wx w') from by
    have hb := hg.band yy
    have := linesFill_good vw m S A G wx hx' i (F.q yy - F.p yy) hi hmw (mayB_true.2 (by omega))
    subst hF
    exact this))
  have HA := Lib.hid (fun i hi => allB_yes hallW i hi)
  have Hbd := Lib.hid (fun y => hg.band y)
  have hm' : F.m = m := by subst hF; rfl
  have hA' : F.A = A := by subst hF; rfl
  have hhow : F.how = how := by subst hF; rfl
  have hfit : ∀ i yy, fitsB F.E F.room F.n (F.A i) 640 yy = (decide (A i ≤ F.q yy - F.p yy) || !anyE (excOf Z) yy 640 n) := by subst hF; exact fun _ _ => rfl
  have hnext : ∀ yy, nextS F.E yy F.n = nextS (excOf Z) yy n := by subst hF; exact fun _ => rfl
  have hless : ∀ yy, anyE (excOf Z) yy 640 n = true → cntE (excOf Z) (nextS (excOf Z) yy n).1 n < cntE (excOf Z) yy n := fun yy h => next_less h
  have hcnt : ∀ yy, cntE (excOf Z) yy n ≤ 32 := fun yy => Nat.le_trans (cntE_le _ _ _) h32
  have hst := hg.start
  have hFy : F.y = y := by subst hF; rfl
  have HON := Lib.hid (fun l i yy (o : F.On l i yy) hi hf => o.on hg hi hf)
  have HNX := Lib.hid (fun l i yy (o : F.On l i yy) hi hf => And.intro (o.next hg hi hf) (And.intro (o.cells hi hf) (o.wid hg hi hf)))
  rw [hFy] at hst
  replace hm' := Lib.hid hm'
  replace hA' := Lib.hid hA'
  replace hhow := Lib.hid hhow
  replace hfit := Lib.hid hfit
  replace hnext := Lib.hid hnext
  replace hless := Lib.hid hless
  replace hcnt := Lib.hid hcnt
  clear hF hall hallW hx hmw hg hFy
  obtain ⟨o, cap, rfl⟩ := hv.shape
  obtain ⟨ow, capw, rfl⟩ := hw.shape
  obtain ⟨i0, hi0, hz0, hz1, hz2⟩ := info_parts rectsInfo
  have hk : Kept w w := Kept.refl w
  go_enter Try.func22, Try.ntmps22
  go_wp2
  go_loopw [13, 12, 4] (fun i u y wx => ∃ (l I : Nat) (yy : Int), i = .int .i64 I ∧ y = .int .i64 yy ∧ Hid (F.On l I yy) ∧ OR wx w.heap.size 41 4 u l (flat 4 (intC F.Z) l) ∧ Kept w wx) (fun i _ y _ => (m - (intOf i).toNat) * 33 + cntE (excOf Z) (intOf y) n)
  case atStart => exact ⟨0, 0, y, rfl, rfl, Lib.hid hst, ⟨World.ownsRow_nil _ _ _ _⟩, hk⟩
  case round =>
    clear hk hst
    obtain ⟨l, I, yy, rfl, rfl, ho, hown, hk⟩ := hrel
    have hIm : I ≤ m := by have := ho.out.le; rw [hm'.out] at this; exact this
    have hlI := ho.out.low
    have hy0 := ho.out.y0
    have hy1 := ho.out.y1
    by_cases hlt : I < m
    · have hi1 : (I : Int) < (m : Int) := by omega
      rcases hw.kept hk with ⟨h0, _⟩ | ⟨b, off, c2, hvv, _, hcc, hz⟩
      · omega
      injection hvv with e1 e2 e3
      subst e1 e3
      have hx1 := HA.out I hlt
      have hbd := Hbd.out yy
      obtain ⟨hlo, hhi, hlong⟩ := hbd
      by_cases hfits : A I ≤ F.q yy - F.p yy
      · have hft : fitsB F.E F.room F.n (F.A I) 640 yy = true := by rw [hfit.out, decide_eq_true hfits, Bool.true_or]
        obtain ⟨hon2, hcells, hwid⟩ := HNX.out l I yy ho.out (by rw [hm'.out]; exact hlt) hft
        have HF := Lib.hid (fun wx (hx' : WV wx _ m S A G) => HFill.out wx hx' I yy hlt)
        have HBy := Lib.hid (fun wx (hx' : RV 5 wx _ n (intC Z)) => HB.out wx hx' yy (by omega))
        rw [hA'.out, hhow.out] at hcells
        rw [hA'.out] at hwid
        replace hon2 := Lib.hid hon2
        obtain ⟨p, hp⟩ : ∃ p, F.p yy = p := ⟨_, rfl⟩
        obtain ⟨q, hq⟩ : ∃ q, F.q yy = q := ⟨_, rfl⟩
        rw [hp, hq] at hcells HF HBy hfits hlo hlong
        rw [hq] at hhi
        obtain ⟨D, hD⟩ : ∃ D, wid A I (F.k I yy) = D := ⟨_, rfl⟩
        obtain ⟨K, hK⟩ : ∃ K, F.k I yy = K := ⟨_, rfl⟩
        rw [hD, hK] at HF hcells
        rw [hK] at hon2
        rw [hD] at hwid
        obtain ⟨T, hT⟩ : ∃ T, I + K + 1 = T := ⟨_, rfl⟩
        rw [hT] at hon2 hcells HF
        have hIT : I < T := by omega
        clear hT
        have hKm : T ≤ m := by have := hon2.out.le; rw [hm'.out] at this; exact this
        rw [hm'.out] at hcells
        obtain ⟨x, hxA⟩ : ∃ x, A I = x := ⟨_, rfl⟩
        rw [hxA] at hx1 hfits
        replace hxA := Lib.hid hxA
        clear hp hq hD hK HFill HB HAny HN HA Hbd HON HNX hfit hnext hless hft ho
        rcases Nat.eq_or_lt_of_le hKm with rfl | hTm
        · rw [decide_eq_true (rfl : T = T)] at hcells
          replace hcells := Lib.hid hcells
          go_wp2_with fail
          refine (HBy.out _ (hv.kept hk)).mono ?_
          rintro e w1 ⟨rfl, hn⟩
          replace hk := hk.trans hn
          replace hown := hown.kept hn
          replace hz := hz.kept hn
          clear hn
          have c1 : w1.cell? ⟨b, off + I * 3 + 1, none⟩ = some (.int .i64 x) := by rw [← hxA.out]; exact hz.adv I hlt
          go_wp2_with fail
          refine (HF.out _ (hw.kept hk)).mono ?_
          rintro e w1 ⟨rfl, hn⟩
          replace hk := hk.trans hn
          replace hown := hown.kept hn
          replace hz := hz.kept hn
          clear hn
          go_wp2_with fail
          refine with_boxes1 ?_
          intro X hX ln
          have hsz := hk.size
          replace hk := hk.trans hX
          replace hown := hown.kept hX
          replace hz := hz.kept hX
          clear hX
          replace ln_l := ln.lt
          replace ln_0 := ln.at 0 _ rfl
          replace ln_1 := ln.at 1 _ rfl
          replace ln_2 := ln.at 2 _ rfl
          refine (besideRect_any I T D how p (q - p) yy true _ hIT (by omega) hwid (by omega) (by omega)).mono ?_
          rintro e w1 ⟨rfl, hn⟩
          replace hk := hk.trans hn
          replace hown := hown.kept hn
          replace hz := hz.kept hn
          replace ln := ln.kept hn
          clear hn
          replace ln_l := ln.lt
          replace ln_0 := ln.at 0 _ rfl
          replace ln_1 := ln.at 1 _ rfl
          replace ln_2 := ln.at 2 _ rfl
          go_wp2_with (at_builtin; refine wpList_append_own _ rfl _ _ 47 rfl w.heap.size 41 i0 (.agg #[.int .i64 0, .int .i64 0, .int .i64 0, .int .i64 0]) 4 32 Try.underlying47 hi0 hz0 hz1 hz2 rfl (by decide) _ _ _ rfl (hown.own.alloc _) ⟨w1.heap.size, 0, none⟩ 1 1 [.int .i64 (p + (offS how (q - p) D).1), .int .i64 yy, .int .i64 (sizeS how (q - p) D (decide (I + 1 < T)) true), .int .i64 640] rfl rfl (lit_cells w1 #[.int .i64 (p + (offS how (q - p) D).1), .int .i64 yy, .int .i64 (sizeS how (q - p) D (decide (I + 1 < T)) true), .int .i64 640] 41) (by simp [Value.oneCell']) (by unfold maxLen; omega) (by omega) (by simp; omega) ?_; intro v2 w2 hown2 hg2 _)
          go_roundw
          case rel => exact ⟨l + 1, _, yy + 640, rfl, by first | rfl | go_num, hon2, ⟨by rw [← flat_four hcells.out]; exact hown2⟩, (hk.alloc _).grown hg2 (row_ge hown.own)⟩
          case measure => simp [intOf]; have := hcnt.out (yy + 640); omega
        · rw [decide_eq_false (show ¬ T = m by omega)] at hcells
          replace hcells := Lib.hid hcells
          have hTm1 : (T : Int) < (m : Int) := by omega
          have hTm2 : ((T : Int) == (m : Int)) = false := by simp; omega
          clear hTm1
          go_wp2_with fail
          refine (HBy.out _ (hv.kept hk)).mono ?_
          rintro e w1 ⟨rfl, hn⟩
          replace hk := hk.trans hn
          replace hown := hown.kept hn
          replace hz := hz.kept hn
          clear hn
          have c1 : w1.cell? ⟨b, off + I * 3 + 1, none⟩ = some (.int .i64 x) := by rw [← hxA.out]; exact hz.adv I hlt
          go_wp2_with fail
          refine (HF.out _ (hw.kept hk)).mono ?_
          rintro e w1 ⟨rfl, hn⟩
          replace hk := hk.trans hn
          replace hown := hown.kept hn
          replace hz := hz.kept hn
          clear hn
          go_wp2_with fail
          refine with_boxes1 ?_
          intro X hX ln
          have hsz := hk.size
          replace hk := hk.trans hX
          replace hown := hown.kept hX
          replace hz := hz.kept hX
          clear hX
          replace ln_l := ln.lt
          replace ln_0 := ln.at 0 _ rfl
          replace ln_1 := ln.at 1 _ rfl
          replace ln_2 := ln.at 2 _ rfl
          refine (besideRect_any I T D how p (q - p) yy false _ hIT (by omega) hwid (by omega) (by omega)).mono ?_
          rintro e w1 ⟨rfl, hn⟩
          replace hk := hk.trans hn
          replace hown := hown.kept hn
          replace hz := hz.kept hn
          replace ln := ln.kept hn
          clear hn
          replace ln_l := ln.lt
          replace ln_0 := ln.at 0 _ rfl
          replace ln_1 := ln.at 1 _ rfl
          replace ln_2 := ln.at 2 _ rfl
          go_wp2_with (at_builtin; refine wpList_append_own _ rfl _ _ 47 rfl w.heap.size 41 i0 (.agg #[.int .i64 0, .int .i64 0, .int .i64 0, .int .i64 0]) 4 32 Try.underlying47 hi0 hz0 hz1 hz2 rfl (by decide) _ _ _ rfl (hown.own.alloc _) ⟨w1.heap.size, 0, none⟩ 1 1 [.int .i64 (p + (offS how (q - p) D).1), .int .i64 yy, .int .i64 (sizeS how (q - p) D (decide (I + 1 < T)) false), .int .i64 640] rfl rfl (lit_cells w1 #[.int .i64 (p + (offS how (q - p) D).1), .int .i64 yy, .int .i64 (sizeS how (q - p) D (decide (I + 1 < T)) false), .int .i64 640] 41) (by simp [Value.oneCell']) (by unfold maxLen; omega) (by omega) (by simp; omega) ?_; intro v2 w2 hown2 hg2 _)
          go_roundw
          case rel => exact ⟨l + 1, _, yy + 640, rfl, by first | rfl | go_num, hon2, ⟨by rw [← flat_four hcells.out]; exact hown2⟩, (hk.alloc _).grown hg2 (row_ge hown.own)⟩
          case measure => simp [intOf]; have := hcnt.out (yy + 640); omega
      · cases hany : anyE (excOf Z) yy 640 n
        · have hft : fitsB F.E F.room F.n (F.A I) 640 yy = true := by rw [hfit.out, hany, Bool.not_false, Bool.or_true]
          obtain ⟨hon2, hcells, hwid⟩ := HNX.out l I yy ho.out (by rw [hm'.out]; exact hlt) hft
          have HF := Lib.hid (fun wx (hx' : WV wx _ m S A G) => HFill.out wx hx' I yy hlt)
          have HBy := Lib.hid (fun wx (hx' : RV 5 wx _ n (intC Z)) => HB.out wx hx' yy (by omega))
          rw [hA'.out, hhow.out] at hcells
          rw [hA'.out] at hwid
          replace hon2 := Lib.hid hon2
          have HAy := Lib.hid (fun wx (hx' : RV 5 wx (.slice o n cap) n (intC Z)) => (show Calls Try.prog 31 #[.slice o n cap, .int .i64 yy, .int .i64 640] wx (fun e w' => e = .returned (.bool false) ∧ Kept wx w') from by have := HAny.out wx hx' yy (by omega); rw [hany] at this; exact this))
          obtain ⟨p, hp⟩ : ∃ p, F.p yy = p := ⟨_, rfl⟩
          obtain ⟨q, hq⟩ : ∃ q, F.q yy = q := ⟨_, rfl⟩
          rw [hp, hq] at hcells HF HBy hfits hlo hlong
          rw [hq] at hhi
          obtain ⟨D, hD⟩ : ∃ D, wid A I (F.k I yy) = D := ⟨_, rfl⟩
          obtain ⟨K, hK⟩ : ∃ K, F.k I yy = K := ⟨_, rfl⟩
          rw [hD, hK] at HF hcells
          rw [hK] at hon2
          rw [hD] at hwid
          obtain ⟨T, hT⟩ : ∃ T, I + K + 1 = T := ⟨_, rfl⟩
          rw [hT] at hon2 hcells HF
          have hIT : I < T := by omega
          clear hT
          have hKm : T ≤ m := by have := hon2.out.le; rw [hm'.out] at this; exact this
          rw [hm'.out] at hcells
          obtain ⟨x, hxA⟩ : ∃ x, A I = x := ⟨_, rfl⟩
          rw [hxA] at hx1 hfits
          replace hxA := Lib.hid hxA
          clear hp hq hD hK HFill HB HAny HN HA Hbd HON HNX hfit hnext hless hft ho
          rcases Nat.eq_or_lt_of_le hKm with rfl | hTm
          · rw [decide_eq_true (rfl : T = T)] at hcells
            replace hcells := Lib.hid hcells
            go_wp2_with fail
            refine (HBy.out _ (hv.kept hk)).mono ?_
            rintro e w1 ⟨rfl, hn⟩
            replace hk := hk.trans hn
            replace hown := hown.kept hn
            replace hz := hz.kept hn
            clear hn
            have c1 : w1.cell? ⟨b, off + I * 3 + 1, none⟩ = some (.int .i64 x) := by rw [← hxA.out]; exact hz.adv I hlt
            go_wp2_with fail
            refine (HAy.out _ (hv.kept hk)).mono ?_
            rintro e w1 ⟨rfl, hn⟩
            replace hk := hk.trans hn
            replace hown := hown.kept hn
            replace hz := hz.kept hn
            clear hn
            go_wp2_with fail
            refine (HF.out _ (hw.kept hk)).mono ?_
            rintro e w1 ⟨rfl, hn⟩
            replace hk := hk.trans hn
            replace hown := hown.kept hn
            replace hz := hz.kept hn
            clear hn
            go_wp2_with fail
            refine with_boxes1 ?_
            intro X hX ln
            have hsz := hk.size
            replace hk := hk.trans hX
            replace hown := hown.kept hX
            replace hz := hz.kept hX
            clear hX
            replace ln_l := ln.lt
            replace ln_0 := ln.at 0 _ rfl
            replace ln_1 := ln.at 1 _ rfl
            replace ln_2 := ln.at 2 _ rfl
            refine (besideRect_any I T D how p (q - p) yy true _ hIT (by omega) hwid (by omega) (by omega)).mono ?_
            rintro e w1 ⟨rfl, hn⟩
            replace hk := hk.trans hn
            replace hown := hown.kept hn
            replace hz := hz.kept hn
            replace ln := ln.kept hn
            clear hn
            replace ln_l := ln.lt
            replace ln_0 := ln.at 0 _ rfl
            replace ln_1 := ln.at 1 _ rfl
            replace ln_2 := ln.at 2 _ rfl
            go_wp2_with (at_builtin; refine wpList_append_own _ rfl _ _ 47 rfl w.heap.size 41 i0 (.agg #[.int .i64 0, .int .i64 0, .int .i64 0, .int .i64 0]) 4 32 Try.underlying47 hi0 hz0 hz1 hz2 rfl (by decide) _ _ _ rfl (hown.own.alloc _) ⟨w1.heap.size, 0, none⟩ 1 1 [.int .i64 (p + (offS how (q - p) D).1), .int .i64 yy, .int .i64 (sizeS how (q - p) D (decide (I + 1 < T)) true), .int .i64 640] rfl rfl (lit_cells w1 #[.int .i64 (p + (offS how (q - p) D).1), .int .i64 yy, .int .i64 (sizeS how (q - p) D (decide (I + 1 < T)) true), .int .i64 640] 41) (by simp [Value.oneCell']) (by unfold maxLen; omega) (by omega) (by simp; omega) ?_; intro v2 w2 hown2 hg2 _)
            go_roundw
            case rel => exact ⟨l + 1, _, yy + 640, rfl, by first | rfl | go_num, hon2, ⟨by rw [← flat_four hcells.out]; exact hown2⟩, (hk.alloc _).grown hg2 (row_ge hown.own)⟩
            case measure => simp [intOf]; have := hcnt.out (yy + 640); omega
          · rw [decide_eq_false (show ¬ T = m by omega)] at hcells
            replace hcells := Lib.hid hcells
            have hTm1 : (T : Int) < (m : Int) := by omega
            have hTm2 : ((T : Int) == (m : Int)) = false := by simp; omega
            clear hTm1
            go_wp2_with fail
            refine (HBy.out _ (hv.kept hk)).mono ?_
            rintro e w1 ⟨rfl, hn⟩
            replace hk := hk.trans hn
            replace hown := hown.kept hn
            replace hz := hz.kept hn
            clear hn
            have c1 : w1.cell? ⟨b, off + I * 3 + 1, none⟩ = some (.int .i64 x) := by rw [← hxA.out]; exact hz.adv I hlt
            go_wp2_with fail
            refine (HAy.out _ (hv.kept hk)).mono ?_
            rintro e w1 ⟨rfl, hn⟩
            replace hk := hk.trans hn
            replace hown := hown.kept hn
            replace hz := hz.kept hn
            clear hn
            go_wp2_with fail
            refine (HF.out _ (hw.kept hk)).mono ?_
            rintro e w1 ⟨rfl, hn⟩
            replace hk := hk.trans hn
            replace hown := hown.kept hn
            replace hz := hz.kept hn
            clear hn
            go_wp2_with fail
            refine with_boxes1 ?_
            intro X hX ln
            have hsz := hk.size
            replace hk := hk.trans hX
            replace hown := hown.kept hX
            replace hz := hz.kept hX
            clear hX
            replace ln_l := ln.lt
            replace ln_0 := ln.at 0 _ rfl
            replace ln_1 := ln.at 1 _ rfl
            replace ln_2 := ln.at 2 _ rfl
            refine (besideRect_any I T D how p (q - p) yy false _ hIT (by omega) hwid (by omega) (by omega)).mono ?_
            rintro e w1 ⟨rfl, hn⟩
            replace hk := hk.trans hn
            replace hown := hown.kept hn
            replace hz := hz.kept hn
            replace ln := ln.kept hn
            clear hn
            replace ln_l := ln.lt
            replace ln_0 := ln.at 0 _ rfl
            replace ln_1 := ln.at 1 _ rfl
            replace ln_2 := ln.at 2 _ rfl
            go_wp2_with (at_builtin; refine wpList_append_own _ rfl _ _ 47 rfl w.heap.size 41 i0 (.agg #[.int .i64 0, .int .i64 0, .int .i64 0, .int .i64 0]) 4 32 Try.underlying47 hi0 hz0 hz1 hz2 rfl (by decide) _ _ _ rfl (hown.own.alloc _) ⟨w1.heap.size, 0, none⟩ 1 1 [.int .i64 (p + (offS how (q - p) D).1), .int .i64 yy, .int .i64 (sizeS how (q - p) D (decide (I + 1 < T)) false), .int .i64 640] rfl rfl (lit_cells w1 #[.int .i64 (p + (offS how (q - p) D).1), .int .i64 yy, .int .i64 (sizeS how (q - p) D (decide (I + 1 < T)) false), .int .i64 640] 41) (by simp [Value.oneCell']) (by unfold maxLen; omega) (by omega) (by simp; omega) ?_; intro v2 w2 hown2 hg2 _)
            go_roundw
            case rel => exact ⟨l + 1, _, yy + 640, rfl, by first | rfl | go_num, hon2, ⟨by rw [← flat_four hcells.out]; exact hown2⟩, (hk.alloc _).grown hg2 (row_ge hown.own)⟩
            case measure => simp [intOf]; have := hcnt.out (yy + 640); omega
        · have hft : fitsB F.E F.room F.n (F.A I) 640 yy = false := by rw [hfit.out, decide_eq_false hfits, hany]; rfl
          have hon2 := HON.out l I yy ho.out (by rw [hm'.out]; exact hlt) hft
          have hls := hless.out yy hany
          rw [hnext.out] at hon2
          replace hon2 := Lib.hid hon2
          have HBy := Lib.hid (fun wx (hx' : RV 5 wx (.slice o n cap) n (intC Z)) => HB.out wx hx' yy (by omega))
          have HNy := Lib.hid (fun wx (hx' : RV 5 wx (.slice o n cap) n (intC Z)) => HN.out wx hx' yy)
          have HAy := Lib.hid (fun wx (hx' : RV 5 wx (.slice o n cap) n (intC Z)) => (show Calls Try.prog 31 #[.slice o n cap, .int .i64 yy, .int .i64 640] wx (fun e w' => e = .returned (.bool true) ∧ Kept wx w') from by have := HAny.out wx hx' yy (by omega); rw [hany] at this; exact this))
          obtain ⟨p, hp⟩ : ∃ p, F.p yy = p := ⟨_, rfl⟩
          obtain ⟨q, hq⟩ : ∃ q, F.q yy = q := ⟨_, rfl⟩
          rw [hp, hq] at HBy hfits hlo hlong
          rw [hq] at hhi
          obtain ⟨N, hN⟩ : ∃ N, nextS (excOf Z) yy n = N := ⟨_, rfl⟩
          rw [hN] at hon2 hls HNy
          obtain ⟨N1, N2⟩ := N
          dsimp only at hon2 hls HNy
          obtain ⟨x, hxA⟩ : ∃ x, A I = x := ⟨_, rfl⟩
          rw [hxA] at hx1 hfits
          replace hxA := Lib.hid hxA
          have hfits2 : q - p < x := by omega
          clear hp hq hN HFill HB HAny HN HA Hbd HON HNX hfit hnext hless hft ho hfits hany
          go_wp2_with fail
          refine (HBy.out _ (hv.kept hk)).mono ?_
          rintro e w1 ⟨rfl, hn⟩
          replace hk := hk.trans hn
          replace hown := hown.kept hn
          replace hz := hz.kept hn
          clear hn
          have c1 : w1.cell? ⟨b, off + I * 3 + 1, none⟩ = some (.int .i64 x) := by rw [← hxA.out]; exact hz.adv I hlt
          go_wp2_with fail
          refine (HAy.out _ (hv.kept hk)).mono ?_
          rintro e w1 ⟨rfl, hn⟩
          replace hk := hk.trans hn
          replace hown := hown.kept hn
          replace hz := hz.kept hn
          clear hn
          go_wp2_with fail
          refine (HNy.out _ (hv.kept hk)).mono ?_
          rintro e w1 ⟨rfl, hn⟩
          replace hk := hk.trans hn
          replace hown := hown.kept hn
          replace hz := hz.kept hn
          clear hn
          go_wp2
          go_roundw
          case rel => exact ⟨l, I, N1, rfl, rfl, hon2, hown, hk⟩
          case measure => simp [intOf]; omega
    · obtain rfl : I = m := by omega
      have hi1 : (I : Int) ≤ (I : Int) := by omega
      have hend : yy = (F.at l).2 := ho.out.stay hm'.out.symm
      have hat : (F.at l).1 = F.m := by rw [ho.out.at_, hm'.out]
      subst hend
      have Hat := Lib.hid hat
      clear hat
      go_wp2
      go_ret2
      exact ⟨l, _, Hat.out, rfl, newRow_of hown.own, hk⟩
end Go.Proofs.Ytkonpnaedniceaa
