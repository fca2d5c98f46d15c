/- Nodes, copied: each with declarations of its own. -/
import Derived.Test.YtpblajjfgnhkdaaDoorNodes
import Derived.Test.YtpblajjfgnhkdaaDoorRowDecls
import Derived.Deep.CutRange
namespace Go.Proofs.YtpblajjfgnhkdaaDoor
open Go.RowKit Go.Deep Go.ChangeShapes Go.WideShapes
set_option linter.unusedSimpArgs false
set_option linter.unusedVariables false
theorem nodesInfo : (Tryd.prog.info? 43).map (fun i => (i.zero, i.size, i.bytes)) = some (some (.agg #[.int .i64 0, .int .i64 0, .int .i64 0, .int .i64 0, .slice none 0 0, .string ⟨#[]⟩]), 6, 72) := by kernel_rfl
theorem row_len11 {w : World} {base : Nat} {e : TypeId} {size : Nat} {v : Value} {m : Nat} {xs : List Value} (h : w.ownsRow base e size v m xs) : ∃ o cap, v = .slice o m cap := by
  rcases h.2 with ⟨hv, h0⟩ | ⟨g, cap, cur, rfl, _⟩
  · subst h0; exact ⟨_, _, hv⟩
  · exact ⟨_, cap, rfl⟩
theorem set_grown11 (w : World) (p : Addr) (v : Value) : w.grownBy (w.setCell p v) (some p.block) :=
  ⟨rfl, rfl, rfl, by simp, fun i _ h => Below.heap_setCell w p v i (fun e => h (by rw [e]))⟩
/-- a row lies apart from a block below it that is written -/
theorem or_set11 {w : World} {base b j n : Nat} {e : TypeId} {size : Nat} {v u : Value} {xs : List Value} (h : w.ownsRow base e size v n xs) (hb : b < base) : OR (w.setCell ⟨b, j, none⟩ u) base e size v n xs := by
  refine ⟨h.kept (set_grown11 w _ u) ?_⟩
  cases hv : v.ownBlock with
  | none => exact .inl rfl
  | some k => exact .inr (by have := row_ge h k hv; intro e; injection e with e; have e2 : k = b := e; omega)
theorem OR.lower {w : World} {base base' n : Nat} {e : TypeId} {size : Nat} {v : Value} {xs : List Value} (h : OR w base e size v n xs) (hb : base' ≤ base) : OR w base' e size v n xs := by
  obtain ⟨h1, h2⟩ := h.own
  refine ⟨h1, ?_⟩
  rcases h2 with h2 | ⟨g, cap, cur, h3, h4, h5⟩
  · exact .inl h2
  · exact .inr ⟨g, cap, cur, h3, by omega, h5⟩
/-- a row of another type is another block -/
theorem OR.grow11 {w w' : World} {base base2 n n2 size size2 : Nat} {e e2 : TypeId} {v u : Value} {xs ys : List Value} (h : OR w base e size v n xs) (hu : OR w base2 e2 size2 u n2 ys) (hne : e ≠ e2) (hg : w.grownBy w' u.ownBlock) : OR w' base e size v n xs := by
  refine ⟨h.own.kept hg ?_⟩
  rcases h.own.2 with ⟨rfl, _⟩ | ⟨g, cap, cur, rfl, _, h5, _⟩
  · exact .inl rfl
  · rcases hu.own.2 with ⟨rfl, _⟩ | ⟨g2, cap2, cur2, rfl, _, h6, _⟩
    · exact .inr (by simp [Value.ownBlock])
    · refine .inr ?_
      intro e
      simp only [Value.ownBlock, Option.some.injEq] at e
      rw [← e, h5] at h6
      injection h6 with h6
      injection h6 with _ h7 _
      exact hne h7
theorem OR.rv11 {a w : World} {t : TypeId} {k n : Nat} {v : Value} {C : Nat → Nat → Value} (h : OR w a.heap.size t k v n (flat k C n)) : RV k w v n C := (newRow_of h.own).rv
theorem nodeC_one {N : Nat → Nd} {D : Nat → Value} (hD : ∀ i, ∃ o m c, D i = .slice o m c) : ∀ i j, (nodeC N D i j).oneCell' = true := fun i j => by
  unfold nodeC
  obtain ⟨o, m, c, h⟩ := hD i
  rw [h]
  split
  · rfl
  · split
    · rfl
    · split
      · rfl
      · split
        · rfl
        · split <;> rfl
/-- copied nodes: a row of the call's own, each node's declarations in a row of their own -/
structure NodesOwn (a w : World) (v : Value) (n : Nat) (N : Nat → Nd) (D : Nat → Value) : Prop where
  row : OR w a.heap.size 43 6 v n (flat 6 (nodeC N D) n)
  each : ∀ i, i < n → OR w a.heap.size 46 2 (D i) (N i).m (flat 2 (declC (N i).P (N i).T) (N i).m)
  shape : ∀ i, ∃ o m c, D i = .slice o m c
theorem NodesOwn.kept {a w w' : World} {v : Value} {n : Nat} {N : Nat → Nd} {D : Nat → Value} (h : NodesOwn a w v n N D) (k : Kept w w') : NodesOwn a w' v n N D := ⟨h.row.kept k, fun i hi => (h.each i hi).kept k, h.shape⟩
theorem NodesOwn.view {a w0 w : World} {v : Value} {n : Nat} {N : Nat → Nd} {D D0 : Nat → Value} (h : NodesOwn a w v n N D) (hs : ∀ i, i < n → NdAt w0 (N i) (D0 i)) : NodesV w v n N D :=
  ⟨h.row.rv11, fun i hi => ⟨(h.each i hi).rv11, (hs i hi).few, (hs i hi).small, (hs i hi).text⟩⟩
set_option maxRecDepth 20000 in
set_option maxHeartbeats 4000000 in
theorem copyNodes_main (sl : Option Addr) (n cap : Nat) (N : Nat → Nd) (D : Nat → Value) (w : World) (hv : NodesV w (.slice sl n cap) n N D) (hb : n ≤ 1954687338268) :
    Calls Tryd.prog 12 #[.slice sl n cap] w fun e w' => ∃ v D', e = .returned v ∧ NodesOwn w w' v n N D' ∧ Kept w w' := by
  obtain ⟨i0, hi, hz0, hz1, hz2⟩ := info_parts nodesInfo
  obtain ⟨d0, di, dz0, dz1, dz2⟩ := info_parts declsInfo
  have HV := Lib.hid hv
  clear hv
  go_enter Tryd.func12, Tryd.ntmps12
  go_wp2
  go_loopw [3, 4, 5] (fun v i _ wx => ∃ (k : Nat) (D' : Nat → Value), k ≤ n ∧ i = .int .i64 k ∧ NodesOwn w wx v k N D' ∧ Kept w wx) (fun _ i _ _ => n - (intOf i).toNat)
  case atStart => exact ⟨0, fun _ => .slice none 0 0, Nat.zero_le _, rfl, ⟨⟨World.ownsRow_nil _ _ _ _⟩, fun i hi => by omega, fun i => ⟨_, _, _, rfl⟩⟩, Kept.refl _⟩
  case round =>
    obtain ⟨k, D', hkn, rfl, ho, hk⟩ := hrel
    by_cases hlt : k < n
    · have hi1 : (k : Int) < (n : Int) := by omega
      obtain ⟨b, off, rfl, hle, hrow⟩ := (HV.out.kept hk).row.row (by omega)
      have hnd := (HV.out.kept hk).each k hlt
      obtain ⟨c0, c1, c2, c3, c4, c5⟩ := node_cells hrow hlt
      obtain ⟨o2, cap2, hD⟩ := hnd.decls.shape
      rw [hD] at c4 hnd
      have hfew := hnd.few
      have hdecl := hnd.decls
      have HEQ := Lib.hid (Eq.refl (N k))
      clear hrow hD hnd
      obtain ⟨y, hy⟩ : ∃ y, N k = y := ⟨_, rfl⟩
      rw [hy] at c0 c1 c2 c3 c4 c5 hfew hdecl
      obtain ⟨pa, ki, fl, cl, m, P, T, te⟩ := y
      dsimp only at c0 c1 c2 c3 c4 c5 hfew hdecl
      have HY := Lib.hid hy
      have HO := Lib.hid ho
      have hle2 := hk.size
      clear hy HEQ ho
      go_upto_region 6 with fail
      obtain ⟨X, eX, kB, bX⟩ := boxes1 wr #[.int .i64 pa, .int .i64 ki, .int .i64 fl, .int .i64 cl, .slice o2 m cap2, .string te] 43
      rw [← eX]
      have hXs : wr.heap.size < X.heap.size := bX.lt
      clear eX
      have b0 := bX.at 0 _ rfl
      have b1 := bX.at 1 _ rfl
      have b2 := bX.at 2 _ rfl
      have b3 := bX.at 3 _ rfl
      have b4 := bX.at 4 _ rfl
      have b5 := bX.at 5 _ rfl
      have hdeclX := hdecl.kept kB
      clear c0 c1 c2 c3 c4 c5 hdecl
      go_cut [] from 16 to 20 (fun wx => ∃ o3 c3, Kept wr wx ∧ OR wx X.heap.size 46 2 (.slice o3 m c3) m (flat 2 (declC P T) m) ∧ Own wx wr.heap.size 43 #[.int .i64 pa, .int .i64 ki, .int .i64 fl, .int .i64 cl, .slice o3 m c3, .string te])
      case first =>
        clear HO HV HY hk
        rcases Nat.eq_zero_or_pos m with hm | hm
        · subst hm
          cases o2 with
          | none =>
            have bW := bX.alloc (.cells #[] 46)
            have bl := bW.lt
            have bf := bW.free 4
            have b4' := bW.at 4 _ rfl
            go_wp2_with (at_builtin; refine append_nothing _ rfl _ _ 41 rfl 46 d0 Tryd.underlying41 di _ _ _ rfl rfl ?_)
            go_meet
            exact ⟨_, _, (kB.set (Nat.le_refl _) _).alloc _, ⟨by have := World.ownsRow_made (X.setCell ⟨wr.heap.size, 4, none⟩ (.slice (some ⟨X.heap.size, 0, none⟩) 0 0)) #[] 0 (base := X.heap.size) (by simp) (by decide) (by simp) (e := 46) (size := 2); simpa [flat] using this⟩, ((bX.set 4 _).is (by rfl)).alloc _⟩
          | some ad =>
            go_wp2_with (at_builtin; refine wpList_append_own _ rfl _ _ 41 rfl X.heap.size 46 d0 (.agg #[.int .i64 0, .string ⟨#[]⟩]) 2 24 Tryd.underlying41 di dz0 dz1 dz2 rfl (by decide) _ _ _ rfl (World.ownsRow_made X #[] 0 (Nat.le_refl _) (by decide) (by simp) (e := 46) (size := 2)) ad 0 cap2 [] rfl rfl (fun j u hu => by cases hu) (fun u hu => by cases hu) (by decide) (by decide) (by simp) ?_; intro v2 w2 hown2 hg2 _; obtain ⟨o3, c3, rfl⟩ := row_len11 hown2; have kW := ((Kept.refl X).alloc _).grown hg2 (row_ge (World.ownsRow_made X #[] 0 (Nat.le_refl _) (by decide) (by simp) (e := 46) (size := 2))); have bW := bX.kept kW; have bl := bW.lt; have bf := bW.free 4; have b4 := bW.at 4 _ rfl)
            go_meet
            exact ⟨o3, c3, (kB.trans kW).set (Nat.le_refl _) _, or_set11 (by simpa [flat] using hown2) (by omega), (bW.set 4 _).is (by rfl)⟩
        · obtain ⟨bb, ob, rfl, hlem, hrm⟩ := hdeclX.row hm
          go_wp2_with (at_builtin; refine wpList_append_own _ rfl _ _ 41 rfl X.heap.size 46 d0 (.agg #[.int .i64 0, .string ⟨#[]⟩]) 2 24 Tryd.underlying41 di dz0 dz1 dz2 rfl (by decide) _ _ _ rfl (World.ownsRow_made X #[] 0 (Nat.le_refl _) (by decide) (by simp) (e := 46) (size := 2)) ⟨bb, ob, none⟩ m cap2 (flat 2 (declC P T) m) rfl (flat_length _ _ _) (flat_cells (hrm.kept ((Kept.refl X).alloc _))) (flat_one (declC_one P T) m) (by unfold maxLen; omega) (by omega) (by simp) ?_; intro v2 w2 hown2 hg2 _; obtain ⟨o3, c3, rfl⟩ := row_len11 hown2; have kW := ((Kept.refl X).alloc _).grown hg2 (row_ge (World.ownsRow_made X #[] 0 (Nat.le_refl _) (by decide) (by simp) (e := 46) (size := 2))); have bW := bX.kept kW; have bl := bW.lt; have bf := bW.free 4; have b4 := bW.at 4 _ rfl)
          go_meet
          exact ⟨o3, c3, (kB.trans kW).set (Nat.le_refl _) _, or_set11 (by simpa using hown2) (by omega), (bW.set 4 _).is (by rfl)⟩
      case rest =>
        obtain ⟨o3, c3, kC, hdr, bC⟩ := hcut
        have g0 := bC.at 0 _ rfl
        have g1 := bC.at 1 _ rfl
        have g2 := bC.at 2 _ rfl
        have g3 := bC.at 3 _ rfl
        have g4 := bC.at 4 _ rfl
        have g5 := bC.at 5 _ rfl
        have gl := bC.lt
        have hoC := HO.out.kept kC
        have HOC := Lib.hid hoC
        have HDR := Lib.hid hdr
        have hkC := hk.trans kC
        have hsz := hkC.size
        clear b0 b1 b2 b3 b4 b5 hdeclX hdr hoC bX
        have HLC := lit_cells wc #[.int .i64 pa, .int .i64 ki, .int .i64 fl, .int .i64 cl, .slice o3 m c3, .string te] 43
        go_wp2_with (at_builtin; refine wpList_append_own _ rfl _ _ 22 rfl w.heap.size 43 i0 (.agg #[.int .i64 0, .int .i64 0, .int .i64 0, .int .i64 0, .slice none 0 0, .string ⟨#[]⟩]) 6 72 Tryd.underlying22 hi hz0 hz1 hz2 rfl (by decide) _ _ _ rfl ((HOC.out.row.kept ((Kept.refl wc).alloc _)).own) ⟨wc.heap.size, 0, none⟩ 1 1 [.int .i64 pa, .int .i64 ki, .int .i64 fl, .int .i64 cl, .slice o3 m c3, .string te] rfl rfl HLC (by simp [Value.oneCell']) (by unfold maxLen; omega) (by omega) (by simp; omega) ?_; intro v2 w2 hown2 hg2 _)
        have hoA := HOC.out.kept ((Kept.refl wc).alloc (.cells #[.int .i64 pa, .int .i64 ki, .int .i64 fl, .int .i64 cl, .slice o3 m c3, .string te] 43))
        have hdA := HDR.out.kept ((Kept.refl wc).alloc (.cells #[.int .i64 pa, .int .i64 ki, .int .i64 fl, .int .i64 cl, .slice o3 m c3, .string te] 43))
        refine ⟨⟨k + 1, fun i => if i = k then .slice o3 m c3 else D' i, by omega, by first | rfl | go_num, ⟨⟨?_⟩, fun i hi => ?_, fun i => ?_⟩, (hkC.alloc _).grown hg2 (row_ge hoA.row.own)⟩, by first | (simp [intOf]; done) | (simp [intOf]; omega)⟩
        · have e : flat 6 (nodeC N fun i => if i = k then .slice o3 m c3 else D' i) (k + 1) = flat 6 (nodeC N D') k ++ [.int .i64 pa, .int .i64 ki, .int .i64 fl, .int .i64 cl, .slice o3 m c3, .string te] := by
            show flat 6 _ k ++ _ = _
            rw [flat_congr (D := nodeC N D') k fun i j hi _ => by unfold nodeC; dsimp only; rw [if_neg (show ¬ i = k by omega)]]
            congr 1
            show [nodeC N _ k 0, nodeC N _ k 1, nodeC N _ k 2, nodeC N _ k 3, nodeC N _ k 4, nodeC N _ k 5] = _
            simp [nodeC, HY.out]
          rw [e]
          exact hown2
        · by_cases e : i = k
          · subst e
            rw [if_pos rfl, HY.out]
            exact (hdA.lower (by omega)).grow11 hoA.row (by decide) hg2
          · rw [if_neg e]
            exact (hoA.each i (by omega)).grow11 hoA.row (by decide) hg2
        · by_cases e : i = k
          · rw [if_pos e]; exact ⟨_, _, _, rfl⟩
          · rw [if_neg e]; exact HOC.out.shape i
    · obtain rfl : k = n := by omega
      go_wp2
      go_ret
      exact ⟨_, D', rfl, ho, hk⟩
end Go.Proofs.YtpblajjfgnhkdaaDoor
