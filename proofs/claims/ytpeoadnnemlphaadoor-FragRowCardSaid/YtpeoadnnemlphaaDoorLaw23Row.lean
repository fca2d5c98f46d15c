/- Layer 23: a row of fragments cut in two: its pieces are those of its parts. -/
import Derived.Test.YtpeoadnnemlphaaDoorLaw23All
import Derived.Test.YtpeoadnnemlphaaDoorMask
namespace Go.Proofs.YtpeoadnnemlphaaDoor
open Go.RowKit Go.Deep
set_option linter.unusedSimpArgs false
set_option linter.unusedVariables false
theorem part_less {wm di ia ib : Int} {n k : Nat} {Z : Nat → Nat → Int} (h : piecesB wm di ia ib n Z = true) (hk : k ≤ n) : piecesB wm di ia ib k Z = true := by
  unfold piecesB at h ⊢
  simp only [Bool.and_eq_true] at h ⊢
  refine ⟨⟨mayF_true.2 ?_, h.1.2⟩, h.2⟩
  have := mayF_true.1 h.1.1
  exact ⟨by omega, allF_of fun i hi => allF_yes this.2 i (by omega)⟩
def shiftZ (k : Nat) (Z : Nat → Nat → Int) (i j : Nat) : Int := Z (k + i) j
theorem part_behind {wm di ia ib : Int} {n k : Nat} {Z : Nat → Nat → Int} (h : piecesB wm di ia ib n Z = true) (hk : k ≤ n) : piecesB wm di ia ib (n - k) (shiftZ k Z) = true := by
  unfold piecesB at h ⊢
  simp only [Bool.and_eq_true] at h ⊢
  refine ⟨⟨mayF_true.2 ?_, h.1.2⟩, h.2⟩
  have := mayF_true.1 h.1.1
  exact ⟨by omega, allF_of fun i hi => allF_yes this.2 (k + i) (by omega)⟩
theorem parts_all {wm di ia ib : Int} {n k : Nat} {Z : Nat → Nat → Int} (h1 : piecesB wm di ia ib k Z = true) (h2 : piecesB wm di ia ib (n - k) (shiftZ k Z) = true) (hk : k ≤ n) (hn : n ≤ 4096) : piecesB wm di ia ib n Z = true := by
  unfold piecesB at h1 h2 ⊢
  simp only [Bool.and_eq_true] at h1 h2 ⊢
  refine ⟨⟨mayF_true.2 ⟨hn, allF_of fun i hi => ?_⟩, h1.1.2⟩, h1.2⟩
  rcases Nat.lt_or_ge i k with h | h
  · exact allF_yes (mayF_true.1 h1.1.1).2 i h
  · have := allF_yes (mayF_true.1 h2.1.1).2 (i - k) (by omega)
    unfold shiftZ at this
    rwa [show k + (i - k) = i by omega] at this
theorem shift_piece (wm di ia ib : Int) (k : Nat) (Z : Nat → Nat → Int) (i j : Nat) : intC (pieceZ wm di ia ib (shiftZ k Z)) i j = intC (pieceZ wm di ia ib Z) (k + i) j := by
  unfold intC
  match j with
  | 0 => rfl
  | 1 => rfl
  | 2 => rfl
  | 3 => rfl
  | 4 => rfl
  | j + 5 => rfl
theorem flat_parts (wm di ia ib : Int) {n k : Nat} (hk : k ≤ n) (Z : Nat → Nat → Int) : flat 6 (intC (pieceZ wm di ia ib Z)) k ++ flat 6 (intC (pieceZ wm di ia ib (shiftZ k Z))) (n - k) = flat 6 (intC (pieceZ wm di ia ib Z)) n := by
  rw [flat_congr (D := fun i j => intC (pieceZ wm di ia ib Z) (k + i) j) (n - k) fun i j _ _ => shift_piece wm di ia ib k Z i j, flat_add, show k + (n - k) = n by omega]
/-- a slice's parts, as values -/
theorem row_parts (o : Option Addr) (n cap k : Nat) (hk : k ≤ n) (Z : Nat → Nat → Int) (w : World) (hv : RV 6 w (.slice o n cap) n (intC Z)) (hcap : n ≤ cap) : ∃ L R : Value,
    (∀ W, (Instr.slice 51 (.slice o n cap) none (some (.int .i64 k)) none).run Tryd.prog W = .ok L W) ∧
    (∀ W, (Instr.slice 51 (.slice o n cap) (some (.int .i64 k)) none none).run Tryd.prog W = .ok R W) ∧
    RV 6 w L k (intC Z) ∧ RV 6 w R (n - k) (intC (shiftZ k Z)) := by
  have hi := fragsInfo
  obtain ⟨i0, hi, hz0, hz1, hz2⟩ := info_parts fragsInfo
  have hs : ∀ W : World, (sizeOf (Tryd.prog.elem 51)).run Tryd.prog W = .ok 6 W := fun W => by
    have e : Tryd.prog.elem 51 = 72 := by kernel_rfl
    rw [e]
    simp [sizeOf, typeInfo, hi, hz1]
  have hu : Tryd.prog.underlying 51 = some (.slice (Tryd.prog.elem 51)) := by kernel_rfl
  refine ⟨sliced o 0 k cap 6, sliced o k n cap 6, fun W => ?_, fun W => ?_, ?_, ?_⟩
  · rw [run_slice_h (P := Tryd.prog) (w := W) 51 o n cap hu .i64 (k : Int) (by omega) (by omega), hs W]
    rfl
  · rw [run_slice_l (P := Tryd.prog) (w := W) 51 o n cap hu .i64 (k : Int) (by omega) (by omega), hs W]
    rfl
  · unfold sliced
    rcases Nat.eq_zero_or_pos k with rfl | hp
    · exact .inl ⟨rfl, _, _, rfl⟩
    · obtain ⟨b, off, rfl, _, hw⟩ := hv.row (by omega)
      refine .inr ⟨b, off, cap, ?_, hp, by omega, hw.less hk⟩
      rw [if_neg (by omega)]
      simp [row_add]
  · unfold sliced
    rcases Nat.eq_zero_or_pos (n - k) with h0 | hp
    · rw [h0]
      exact .inl ⟨rfl, _, _, rfl⟩
    · obtain ⟨b, off, rfl, _, hw⟩ := hv.row (by omega)
      refine .inr ⟨b, off + k * 6, cap - k, ?_, hp, by omega, hw.behind hk⟩
      rw [if_neg (by omega)]
      simp [row_add]
/-- append of a row onto an own row, whatever the row -/
theorem wpList_append_rv {P : Program} {w : World} {ops : Array Oper} {rest : List Oper} {o : Oper} {a : Act} {Q : Exit → Act → World → Prop} (hgd : o.guard = none) (s x : Operand) (t : TypeId)
    (ho : o.op = .call { callee := .builtin .append, args := #[s, x], argTypes := #[t, t] })
    (base : Nat) (e : TypeId) (i : TypeInfo) (z : Value) (size bytes : Nat) (ht : P.underlying t = some (.slice e)) (hi : P.info? e = some i) (hz : i.zero = some z)
    (hsize : i.size = size) (hby : i.bytes = bytes) (hzs : z.cells.size = size) (hsz : 0 < size)
    (v : Value) (n : Nat) (xs : List Value) (hs : a.eval s = v) (hown : w.ownsRow base e size v n xs)
    (m : Nat) (C : Nat → Nat → Value) (hC : ∀ i j, (C i j).oneCell' = true) (y : Value) (hy : a.eval x = y) (hx : RV size w y m C)
    (h63 : n + m ≤ maxLen) (hbytes : (n + m) * bytes ≤ 140737488355328) (hbase : base ≤ w.heap.size)
    (h : ∀ v' w', w'.ownsRow base e size v' (n + m) (xs ++ flat size C m) → w.grownBy w' v.ownBlock → wpList P ops Q rest (a.put o.dst v') w') : wpList P ops Q (o :: rest) a w := by
  rcases hx with ⟨rfl, o', c, rfl⟩ | ⟨b, off, c, rfl, h2, h3, hw⟩
  · cases o' with
    | none =>
      refine wpList_plain hgd fun K hK => ?_
      have hr : (Builtin.append_ #[t, t] o.type #[v, .slice none 0 c]).run P w = .ok v w := by
        rcases hown.2 with ⟨rfl, rfl⟩ | ⟨g, cap, cur, rfl, _, _, hle, _⟩
        · simp [Builtin.append_, run_underlying ht, sizeOf, typeInfo, hi, Builtin.lenOf, Builtin.firstCells, loadCells, loadCellsFrom]
        · exact run_append_room_src (P := P) w t t o.type e i ht hi g 0 n cap (.slice none 0 c) 0 [] (Src.ofNil w ht c) (by omega) (fun j hj => by simp at hj) (fun j hj => by simp at hj)
      unfold Oper.wp execOp
      simp only [ho, resolve, invoke, builtin, Sem.run_bind, Sem.run_pure, Result.andThen_ok, List.map_toArray, List.map_cons, List.map_nil, hs, hy, hr]
      exact hK _ _ (h v w (by simpa [flat] using hown) ⟨rfl, rfl, rfl, Nat.le_refl _, fun _ _ _ => rfl⟩)
    | some ad =>
      exact wpList_append_own w hgd s x t ho base e i z size bytes ht hi hz hsize hby hzs hsz v n xs hs hown ad 0 c [] hy (by simp) (fun j u hu => by cases hu) (fun u hu => by cases hu) h63 hbytes hbase fun v' w' h1 h2 _ => h v' w' (by simpa [flat] using h1) h2
  · exact wpList_append_own w hgd s x t ho base e i z size bytes ht hi hz hsize hby hzs hsz v n xs hs hown ⟨b, off, none⟩ m c (flat size C m) hy (flat_length _ _ _) (flat_cells hw) (flat_one hC m) h63 hbytes hbase fun v' w' h1 h2 _ => h v' w' h1 h2
-- WALKS
set_option maxRecDepth 20000 in
set_option maxHeartbeats 8000000 in
theorem fragRow_no1 (wm di ia ib cut G : Int) (o : Option Addr) (n cap k : Nat) (hk4 : k ≤ n) (L R : Value) (w : World)
    (hcut : (IntKind.u64.wrap cut).tmod ((n : Int) + 1) = (k : Int)) (hb : n ≤ 2932031007317) (ht : Tab w)
    (hSL : ∀ W, (Instr.slice 51 (.slice o n cap) none (some (.int .i64 k)) none).run Tryd.prog W = .ok L W)
    (hSR : ∀ W, (Instr.slice 51 (.slice o n cap) (some (.int .i64 k)) none none).run Tryd.prog W = .ok R W)
    (H1 : Hid (∀ wx, Kept w wx → Calls Tryd.prog 22 #[modeV wm di, sizeV ia ib, .slice o n cap] wx fun e w' => ∃ u, e = .returned (.tuple #[u, .int .i64 2300]) ∧ Kept wx w'))
    (H2 : Hid (∀ wx, Kept w wx → Calls Tryd.prog 22 #[modeV wm di, sizeV ia ib, L] wx fun e w' => ∃ u, e = .returned (.tuple #[u, .int .i64 2300]) ∧ Kept wx w'))
    (H3 : Hid (∀ wx, Kept w wx → Calls Tryd.prog 22 #[modeV wm di, sizeV ia ib, R] wx fun e w' => ∃ u, e = .returned (.tuple #[u, .int .i64 G]) ∧ Kept wx w')) :
    Calls Tryd.prog 10 #[modeV wm di, sizeV ia ib, .slice o n cap, .int .i64 cut] w fun e w' => e = .returned (.bool true) ∧ Kept w w' := by
  have e1 : IntKind.i64.wrap ((n : Int) + 1) = (n : Int) + 1 := IntWalk.i64_in _ (by omega)
  have e2 : IntKind.u64.wrap ((n : Int) + 1) = (n : Int) + 1 := by rw [IntKind.wrap_u64]; omega
  have e3 : IntKind.i64.wrap (k : Int) = (k : Int) := IntWalk.i64_in _ (by omega)
  have e4 : (n : Int) + 1 ≠ 0 := by omega
  have hk : Kept w w := Kept.refl w
  go_enter Tryd.func10, Tryd.ntmps10
  go_wp2_with fail
  refine with_boxes2 ?_
  intro X hX m i
  have hsz := hk.size
  replace hk := hk.trans hX
  clear hX
  replace m_l := m.lt
  replace m_0 := m.at 0 _ rfl
  replace m_1 := m.at 1 _ rfl
  replace i_l := i.lt
  replace i_0 := i.at 0 _ rfl
  replace i_1 := i.at 1 _ rfl
  refine (awake23_any _ (ht.kept hk)).mono ?_
  rintro e w1 ⟨rfl, hn⟩
  replace hk := hk.trans hn
  replace m := m.kept hn
  replace i := i.kept hn
  clear hn
  replace m_l := m.lt
  replace m_0 := m.at 0 _ rfl
  replace m_1 := m.at 1 _ rfl
  replace i_l := i.lt
  replace i_0 := i.at 0 _ rfl
  replace i_1 := i.at 1 _ rfl
  go_wp2_with fail
  refine (H1.out _ hk).mono ?_
  rintro e w1 ⟨u1, rfl, hn⟩
  replace hk := hk.trans hn
  replace m := m.kept hn
  replace i := i.kept hn
  clear hn
  replace m_l := m.lt
  replace m_0 := m.at 0 _ rfl
  replace m_1 := m.at 1 _ rfl
  replace i_l := i.lt
  replace i_0 := i.at 0 _ rfl
  replace i_1 := i.at 1 _ rfl
  have HC := Lib.hid (fun (W W' : World) (h : Kept w W ∧ W.cell? ⟨w.heap.size, 0, none⟩ = some (.int .i64 wm) ∧ W.cell? ⟨w.heap.size, 1, none⟩ = some (.int .i64 di) ∧ W.cell? ⟨w.heap.size + 1, 0, none⟩ = some (.int .i64 ia) ∧ W.cell? ⟨w.heap.size + 1, 1, none⟩ = some (.int .i64 ib)) (hn : Kept W W') => (show Kept w W' ∧ W'.cell? ⟨w.heap.size, 0, none⟩ = some (.int .i64 wm) ∧ W'.cell? ⟨w.heap.size, 1, none⟩ = some (.int .i64 di) ∧ W'.cell? ⟨w.heap.size + 1, 0, none⟩ = some (.int .i64 ia) ∧ W'.cell? ⟨w.heap.size + 1, 1, none⟩ = some (.int .i64 ib) from ⟨h.1.trans hn, (hn.cell (World.block_lt_of_cell? _ _ h.2.1)).trans h.2.1, (hn.cell (World.block_lt_of_cell? _ _ h.2.2.1)).trans h.2.2.1, (hn.cell (World.block_lt_of_cell? _ _ h.2.2.2.1)).trans h.2.2.2.1, (hn.cell (World.block_lt_of_cell? _ _ h.2.2.2.2)).trans h.2.2.2.2⟩))
  go_wp2_with fail
  have hS : Kept w w1.drew ∧ w1.drew.cell? ⟨w.heap.size, 0, none⟩ = some (.int .i64 wm) ∧ w1.drew.cell? ⟨w.heap.size, 1, none⟩ = some (.int .i64 di) ∧ w1.drew.cell? ⟨w.heap.size + 1, 0, none⟩ = some (.int .i64 ia) ∧ w1.drew.cell? ⟨w.heap.size + 1, 1, none⟩ = some (.int .i64 ib) := ⟨hk.drew, m_0, m_1, i_0, i_1⟩
  go_region_held3 (fun W => Kept w W ∧ W.cell? ⟨w.heap.size, 0, none⟩ = some (.int .i64 wm) ∧ W.cell? ⟨w.heap.size, 1, none⟩ = some (.int .i64 di) ∧ W.cell? ⟨w.heap.size + 1, 0, none⟩ = some (.int .i64 ia) ∧ W.cell? ⟨w.heap.size + 1, 1, none⟩ = some (.int .i64 ib))
    (first | exact hS | assumption | exact HC.out _ _ ‹_› hn)
    (first | (go_at_call 22; (with_reducible refine (H2.out _ ((‹Kept w _ ∧ _›).1)).mono ?_); rintro e w3 ⟨u2, rfl, hn⟩))
  replace hk := (‹Kept w w3 ∧ _›).1
  replace hn := (Kept.refl w1).drew.trans hn
  replace m := m.kept hn
  replace i := i.kept hn
  replace m_l := m.lt
  replace m_0 := m.at 0 _ rfl
  replace m_1 := m.at 1 _ rfl
  replace i_l := i.lt
  replace i_0 := i.at 0 _ rfl
  replace i_1 := i.at 1 _ rfl
  clear hS hn
  go_wp2_with fail
  have hS : Kept w w3.drew ∧ w3.drew.cell? ⟨w.heap.size, 0, none⟩ = some (.int .i64 wm) ∧ w3.drew.cell? ⟨w.heap.size, 1, none⟩ = some (.int .i64 di) ∧ w3.drew.cell? ⟨w.heap.size + 1, 0, none⟩ = some (.int .i64 ia) ∧ w3.drew.cell? ⟨w.heap.size + 1, 1, none⟩ = some (.int .i64 ib) := ⟨hk.drew, m_0, m_1, i_0, i_1⟩
  go_region_held3 (fun W => Kept w W ∧ W.cell? ⟨w.heap.size, 0, none⟩ = some (.int .i64 wm) ∧ W.cell? ⟨w.heap.size, 1, none⟩ = some (.int .i64 di) ∧ W.cell? ⟨w.heap.size + 1, 0, none⟩ = some (.int .i64 ia) ∧ W.cell? ⟨w.heap.size + 1, 1, none⟩ = some (.int .i64 ib))
    (first | exact hS | assumption | exact HC.out _ _ ‹_› hn)
    (first | (go_at_call 22; (with_reducible refine (H3.out _ ((‹Kept w _ ∧ _›).1)).mono ?_); rintro e w5 ⟨u3, rfl, hn⟩))
  replace hk := (‹Kept w w5 ∧ _›).1
  replace hn := (Kept.refl w3).drew.trans hn
  replace m := m.kept hn
  replace i := i.kept hn
  replace m_l := m.lt
  replace m_0 := m.at 0 _ rfl
  replace m_1 := m.at 1 _ rfl
  replace i_l := i.lt
  replace i_0 := i.at 0 _ rfl
  replace i_1 := i.at 1 _ rfl
  clear hS hn
  clear HC m i m_l m_0 m_1 i_l i_0 i_1
  go_wp2_with ((go_at_call 17; refine (num_any _ _).mono ?_; rintro e w8 ⟨rfl, hn⟩; obtain rfl := hn))
  go_ret
  exact ⟨rfl, hk⟩
set_option maxRecDepth 20000 in
set_option maxHeartbeats 8000000 in
theorem fragRow_no2 (wm di ia ib cut : Int) (o : Option Addr) (n cap k : Nat) (hk4 : k ≤ n) (L R : Value) (w : World)
    (hcut : (IntKind.u64.wrap cut).tmod ((n : Int) + 1) = (k : Int)) (hb : n ≤ 2932031007317) (ht : Tab w)
    (hSL : ∀ W, (Instr.slice 51 (.slice o n cap) none (some (.int .i64 k)) none).run Tryd.prog W = .ok L W)
    (hSR : ∀ W, (Instr.slice 51 (.slice o n cap) (some (.int .i64 k)) none none).run Tryd.prog W = .ok R W)
    (H1 : Hid (∀ wx, Kept w wx → Calls Tryd.prog 22 #[modeV wm di, sizeV ia ib, .slice o n cap] wx fun e w' => ∃ u, e = .returned (.tuple #[u, .int .i64 2300]) ∧ Kept wx w'))
    (H2 : Hid (∀ wx, Kept w wx → Calls Tryd.prog 22 #[modeV wm di, sizeV ia ib, L] wx fun e w' => ∃ u, e = .returned (.tuple #[u, .int .i64 0]) ∧ Kept wx w'))
    (H3 : Hid (∀ wx, Kept w wx → Calls Tryd.prog 22 #[modeV wm di, sizeV ia ib, R] wx fun e w' => ∃ u, e = .returned (.tuple #[u, .int .i64 2300]) ∧ Kept wx w')) :
    Calls Tryd.prog 10 #[modeV wm di, sizeV ia ib, .slice o n cap, .int .i64 cut] w fun e w' => e = .returned (.bool true) ∧ Kept w w' := by
  have e1 : IntKind.i64.wrap ((n : Int) + 1) = (n : Int) + 1 := IntWalk.i64_in _ (by omega)
  have e2 : IntKind.u64.wrap ((n : Int) + 1) = (n : Int) + 1 := by rw [IntKind.wrap_u64]; omega
  have e3 : IntKind.i64.wrap (k : Int) = (k : Int) := IntWalk.i64_in _ (by omega)
  have e4 : (n : Int) + 1 ≠ 0 := by omega
  have hk : Kept w w := Kept.refl w
  go_enter Tryd.func10, Tryd.ntmps10
  go_wp2_with fail
  refine with_boxes2 ?_
  intro X hX m i
  have hsz := hk.size
  replace hk := hk.trans hX
  clear hX
  replace m_l := m.lt
  replace m_0 := m.at 0 _ rfl
  replace m_1 := m.at 1 _ rfl
  replace i_l := i.lt
  replace i_0 := i.at 0 _ rfl
  replace i_1 := i.at 1 _ rfl
  refine (awake23_any _ (ht.kept hk)).mono ?_
  rintro e w1 ⟨rfl, hn⟩
  replace hk := hk.trans hn
  replace m := m.kept hn
  replace i := i.kept hn
  clear hn
  replace m_l := m.lt
  replace m_0 := m.at 0 _ rfl
  replace m_1 := m.at 1 _ rfl
  replace i_l := i.lt
  replace i_0 := i.at 0 _ rfl
  replace i_1 := i.at 1 _ rfl
  go_wp2_with fail
  refine (H1.out _ hk).mono ?_
  rintro e w1 ⟨u1, rfl, hn⟩
  replace hk := hk.trans hn
  replace m := m.kept hn
  replace i := i.kept hn
  clear hn
  replace m_l := m.lt
  replace m_0 := m.at 0 _ rfl
  replace m_1 := m.at 1 _ rfl
  replace i_l := i.lt
  replace i_0 := i.at 0 _ rfl
  replace i_1 := i.at 1 _ rfl
  have HC := Lib.hid (fun (W W' : World) (h : Kept w W ∧ W.cell? ⟨w.heap.size, 0, none⟩ = some (.int .i64 wm) ∧ W.cell? ⟨w.heap.size, 1, none⟩ = some (.int .i64 di) ∧ W.cell? ⟨w.heap.size + 1, 0, none⟩ = some (.int .i64 ia) ∧ W.cell? ⟨w.heap.size + 1, 1, none⟩ = some (.int .i64 ib)) (hn : Kept W W') => (show Kept w W' ∧ W'.cell? ⟨w.heap.size, 0, none⟩ = some (.int .i64 wm) ∧ W'.cell? ⟨w.heap.size, 1, none⟩ = some (.int .i64 di) ∧ W'.cell? ⟨w.heap.size + 1, 0, none⟩ = some (.int .i64 ia) ∧ W'.cell? ⟨w.heap.size + 1, 1, none⟩ = some (.int .i64 ib) from ⟨h.1.trans hn, (hn.cell (World.block_lt_of_cell? _ _ h.2.1)).trans h.2.1, (hn.cell (World.block_lt_of_cell? _ _ h.2.2.1)).trans h.2.2.1, (hn.cell (World.block_lt_of_cell? _ _ h.2.2.2.1)).trans h.2.2.2.1, (hn.cell (World.block_lt_of_cell? _ _ h.2.2.2.2)).trans h.2.2.2.2⟩))
  go_wp2_with fail
  have hS : Kept w w1.drew ∧ w1.drew.cell? ⟨w.heap.size, 0, none⟩ = some (.int .i64 wm) ∧ w1.drew.cell? ⟨w.heap.size, 1, none⟩ = some (.int .i64 di) ∧ w1.drew.cell? ⟨w.heap.size + 1, 0, none⟩ = some (.int .i64 ia) ∧ w1.drew.cell? ⟨w.heap.size + 1, 1, none⟩ = some (.int .i64 ib) := ⟨hk.drew, m_0, m_1, i_0, i_1⟩
  go_region_held3 (fun W => Kept w W ∧ W.cell? ⟨w.heap.size, 0, none⟩ = some (.int .i64 wm) ∧ W.cell? ⟨w.heap.size, 1, none⟩ = some (.int .i64 di) ∧ W.cell? ⟨w.heap.size + 1, 0, none⟩ = some (.int .i64 ia) ∧ W.cell? ⟨w.heap.size + 1, 1, none⟩ = some (.int .i64 ib))
    (first | exact hS | assumption | exact HC.out _ _ ‹_› hn)
    (first | (go_at_call 22; (with_reducible refine (H2.out _ ((‹Kept w _ ∧ _›).1)).mono ?_); rintro e w3 ⟨u2, rfl, hn⟩))
  replace hk := (‹Kept w w3 ∧ _›).1
  replace hn := (Kept.refl w1).drew.trans hn
  replace m := m.kept hn
  replace i := i.kept hn
  replace m_l := m.lt
  replace m_0 := m.at 0 _ rfl
  replace m_1 := m.at 1 _ rfl
  replace i_l := i.lt
  replace i_0 := i.at 0 _ rfl
  replace i_1 := i.at 1 _ rfl
  clear hS hn
  go_wp2_with fail
  have hS : Kept w w3.drew ∧ w3.drew.cell? ⟨w.heap.size, 0, none⟩ = some (.int .i64 wm) ∧ w3.drew.cell? ⟨w.heap.size, 1, none⟩ = some (.int .i64 di) ∧ w3.drew.cell? ⟨w.heap.size + 1, 0, none⟩ = some (.int .i64 ia) ∧ w3.drew.cell? ⟨w.heap.size + 1, 1, none⟩ = some (.int .i64 ib) := ⟨hk.drew, m_0, m_1, i_0, i_1⟩
  go_region_held3 (fun W => Kept w W ∧ W.cell? ⟨w.heap.size, 0, none⟩ = some (.int .i64 wm) ∧ W.cell? ⟨w.heap.size, 1, none⟩ = some (.int .i64 di) ∧ W.cell? ⟨w.heap.size + 1, 0, none⟩ = some (.int .i64 ia) ∧ W.cell? ⟨w.heap.size + 1, 1, none⟩ = some (.int .i64 ib))
    (first | exact hS | assumption | exact HC.out _ _ ‹_› hn)
    (first | (go_at_call 22; (with_reducible refine (H3.out _ ((‹Kept w _ ∧ _›).1)).mono ?_); rintro e w5 ⟨u3, rfl, hn⟩))
  replace hk := (‹Kept w w5 ∧ _›).1
  replace hn := (Kept.refl w3).drew.trans hn
  replace m := m.kept hn
  replace i := i.kept hn
  replace m_l := m.lt
  replace m_0 := m.at 0 _ rfl
  replace m_1 := m.at 1 _ rfl
  replace i_l := i.lt
  replace i_0 := i.at 0 _ rfl
  replace i_1 := i.at 1 _ rfl
  clear hS hn
  clear HC m i m_l m_0 m_1 i_l i_0 i_1
  go_wp2_with ((go_at_call 17; refine (num_any _ _).mono ?_; rintro e w8 ⟨rfl, hn⟩; obtain rfl := hn))
  go_ret
  exact ⟨rfl, hk⟩
set_option maxRecDepth 20000 in
set_option maxHeartbeats 8000000 in
theorem fragRow_no3 (wm di ia ib cut : Int) (o : Option Addr) (n cap k : Nat) (hk4 : k ≤ n) (L R : Value) (w : World)
    (hcut : (IntKind.u64.wrap cut).tmod ((n : Int) + 1) = (k : Int)) (hb : n ≤ 2932031007317) (ht : Tab w)
    (hSL : ∀ W, (Instr.slice 51 (.slice o n cap) none (some (.int .i64 k)) none).run Tryd.prog W = .ok L W)
    (hSR : ∀ W, (Instr.slice 51 (.slice o n cap) (some (.int .i64 k)) none none).run Tryd.prog W = .ok R W)
    (H1 : Hid (∀ wx, Kept w wx → Calls Tryd.prog 22 #[modeV wm di, sizeV ia ib, .slice o n cap] wx fun e w' => ∃ u, e = .returned (.tuple #[u, .int .i64 2300]) ∧ Kept wx w'))
    (H2 : Hid (∀ wx, Kept w wx → Calls Tryd.prog 22 #[modeV wm di, sizeV ia ib, L] wx fun e w' => ∃ u, e = .returned (.tuple #[u, .int .i64 0]) ∧ Kept wx w'))
    (H3 : Hid (∀ wx, Kept w wx → Calls Tryd.prog 22 #[modeV wm di, sizeV ia ib, R] wx fun e w' => ∃ u, e = .returned (.tuple #[u, .int .i64 0]) ∧ Kept wx w')) (hbig : (4096 : Int) < (n : Int)) :
    Calls Tryd.prog 10 #[modeV wm di, sizeV ia ib, .slice o n cap, .int .i64 cut] w fun e w' => e = .returned (.bool true) ∧ Kept w w' := by
  have e1 : IntKind.i64.wrap ((n : Int) + 1) = (n : Int) + 1 := IntWalk.i64_in _ (by omega)
  have e2 : IntKind.u64.wrap ((n : Int) + 1) = (n : Int) + 1 := by rw [IntKind.wrap_u64]; omega
  have e3 : IntKind.i64.wrap (k : Int) = (k : Int) := IntWalk.i64_in _ (by omega)
  have e4 : (n : Int) + 1 ≠ 0 := by omega
  have hk : Kept w w := Kept.refl w
  go_enter Tryd.func10, Tryd.ntmps10
  go_wp2_with fail
  refine with_boxes2 ?_
  intro X hX m i
  have hsz := hk.size
  replace hk := hk.trans hX
  clear hX
  replace m_l := m.lt
  replace m_0 := m.at 0 _ rfl
  replace m_1 := m.at 1 _ rfl
  replace i_l := i.lt
  replace i_0 := i.at 0 _ rfl
  replace i_1 := i.at 1 _ rfl
  refine (awake23_any _ (ht.kept hk)).mono ?_
  rintro e w1 ⟨rfl, hn⟩
  replace hk := hk.trans hn
  replace m := m.kept hn
  replace i := i.kept hn
  clear hn
  replace m_l := m.lt
  replace m_0 := m.at 0 _ rfl
  replace m_1 := m.at 1 _ rfl
  replace i_l := i.lt
  replace i_0 := i.at 0 _ rfl
  replace i_1 := i.at 1 _ rfl
  go_wp2_with fail
  refine (H1.out _ hk).mono ?_
  rintro e w1 ⟨u1, rfl, hn⟩
  replace hk := hk.trans hn
  replace m := m.kept hn
  replace i := i.kept hn
  clear hn
  replace m_l := m.lt
  replace m_0 := m.at 0 _ rfl
  replace m_1 := m.at 1 _ rfl
  replace i_l := i.lt
  replace i_0 := i.at 0 _ rfl
  replace i_1 := i.at 1 _ rfl
  have HC := Lib.hid (fun (W W' : World) (h : Kept w W ∧ W.cell? ⟨w.heap.size, 0, none⟩ = some (.int .i64 wm) ∧ W.cell? ⟨w.heap.size, 1, none⟩ = some (.int .i64 di) ∧ W.cell? ⟨w.heap.size + 1, 0, none⟩ = some (.int .i64 ia) ∧ W.cell? ⟨w.heap.size + 1, 1, none⟩ = some (.int .i64 ib)) (hn : Kept W W') => (show Kept w W' ∧ W'.cell? ⟨w.heap.size, 0, none⟩ = some (.int .i64 wm) ∧ W'.cell? ⟨w.heap.size, 1, none⟩ = some (.int .i64 di) ∧ W'.cell? ⟨w.heap.size + 1, 0, none⟩ = some (.int .i64 ia) ∧ W'.cell? ⟨w.heap.size + 1, 1, none⟩ = some (.int .i64 ib) from ⟨h.1.trans hn, (hn.cell (World.block_lt_of_cell? _ _ h.2.1)).trans h.2.1, (hn.cell (World.block_lt_of_cell? _ _ h.2.2.1)).trans h.2.2.1, (hn.cell (World.block_lt_of_cell? _ _ h.2.2.2.1)).trans h.2.2.2.1, (hn.cell (World.block_lt_of_cell? _ _ h.2.2.2.2)).trans h.2.2.2.2⟩))
  go_wp2_with fail
  have hS : Kept w w1.drew ∧ w1.drew.cell? ⟨w.heap.size, 0, none⟩ = some (.int .i64 wm) ∧ w1.drew.cell? ⟨w.heap.size, 1, none⟩ = some (.int .i64 di) ∧ w1.drew.cell? ⟨w.heap.size + 1, 0, none⟩ = some (.int .i64 ia) ∧ w1.drew.cell? ⟨w.heap.size + 1, 1, none⟩ = some (.int .i64 ib) := ⟨hk.drew, m_0, m_1, i_0, i_1⟩
  go_region_held3 (fun W => Kept w W ∧ W.cell? ⟨w.heap.size, 0, none⟩ = some (.int .i64 wm) ∧ W.cell? ⟨w.heap.size, 1, none⟩ = some (.int .i64 di) ∧ W.cell? ⟨w.heap.size + 1, 0, none⟩ = some (.int .i64 ia) ∧ W.cell? ⟨w.heap.size + 1, 1, none⟩ = some (.int .i64 ib))
    (first | exact hS | assumption | exact HC.out _ _ ‹_› hn)
    (first | (go_at_call 22; (with_reducible refine (H2.out _ ((‹Kept w _ ∧ _›).1)).mono ?_); rintro e w3 ⟨u2, rfl, hn⟩))
  replace hk := (‹Kept w w3 ∧ _›).1
  replace hn := (Kept.refl w1).drew.trans hn
  replace m := m.kept hn
  replace i := i.kept hn
  replace m_l := m.lt
  replace m_0 := m.at 0 _ rfl
  replace m_1 := m.at 1 _ rfl
  replace i_l := i.lt
  replace i_0 := i.at 0 _ rfl
  replace i_1 := i.at 1 _ rfl
  clear hS hn
  go_wp2_with fail
  have hS : Kept w w3.drew ∧ w3.drew.cell? ⟨w.heap.size, 0, none⟩ = some (.int .i64 wm) ∧ w3.drew.cell? ⟨w.heap.size, 1, none⟩ = some (.int .i64 di) ∧ w3.drew.cell? ⟨w.heap.size + 1, 0, none⟩ = some (.int .i64 ia) ∧ w3.drew.cell? ⟨w.heap.size + 1, 1, none⟩ = some (.int .i64 ib) := ⟨hk.drew, m_0, m_1, i_0, i_1⟩
  go_region_held3 (fun W => Kept w W ∧ W.cell? ⟨w.heap.size, 0, none⟩ = some (.int .i64 wm) ∧ W.cell? ⟨w.heap.size, 1, none⟩ = some (.int .i64 di) ∧ W.cell? ⟨w.heap.size + 1, 0, none⟩ = some (.int .i64 ia) ∧ W.cell? ⟨w.heap.size + 1, 1, none⟩ = some (.int .i64 ib))
    (first | exact hS | assumption | exact HC.out _ _ ‹_› hn)
    (first | (go_at_call 22; (with_reducible refine (H3.out _ ((‹Kept w _ ∧ _›).1)).mono ?_); rintro e w5 ⟨u3, rfl, hn⟩))
  replace hk := (‹Kept w w5 ∧ _›).1
  replace hn := (Kept.refl w3).drew.trans hn
  replace m := m.kept hn
  replace i := i.kept hn
  replace m_l := m.lt
  replace m_0 := m.at 0 _ rfl
  replace m_1 := m.at 1 _ rfl
  replace i_l := i.lt
  replace i_0 := i.at 0 _ rfl
  replace i_1 := i.at 1 _ rfl
  clear hS hn
  clear HC m i m_l m_0 m_1 i_l i_0 i_1
  go_wp2_with ((go_at_call 17; refine (num_any _ _).mono ?_; rintro e w8 ⟨rfl, hn⟩; obtain rfl := hn))
  go_ret
  exact ⟨rfl, hk⟩
set_option maxRecDepth 20000 in
set_option maxHeartbeats 8000000 in
theorem fragRow_yes (wm di ia ib cut : Int) (Zp Zq : Nat → Nat → Int) (o : Option Addr) (n cap k : Nat) (hk4 : k ≤ n) (L R : Value) (w : World)
    (hcut : (IntKind.u64.wrap cut).tmod ((n : Int) + 1) = (k : Int)) (hb : n ≤ 2932031007317) (ht : Tab w)
    (hSL : ∀ W, (Instr.slice 51 (.slice o n cap) none (some (.int .i64 k)) none).run Tryd.prog W = .ok L W)
    (hSR : ∀ W, (Instr.slice 51 (.slice o n cap) (some (.int .i64 k)) none none).run Tryd.prog W = .ok R W)
    (H1 : Hid (∀ wx, Kept w wx → Calls Tryd.prog 22 #[modeV wm di, sizeV ia ib, .slice o n cap] wx fun e w' => ∃ u, e = .returned (.tuple #[u, .int .i64 0]) ∧ RV 6 w' u n (intC Zp) ∧ Kept wx w'))
    (H2 : Hid (∀ wx, Kept w wx → Calls Tryd.prog 22 #[modeV wm di, sizeV ia ib, L] wx fun e w' => ∃ u, e = .returned (.tuple #[u, .int .i64 0]) ∧ RV 6 w' u k (intC Zp) ∧ Kept wx w'))
    (H3 : Hid (∀ wx, Kept w wx → Calls Tryd.prog 22 #[modeV wm di, sizeV ia ib, R] wx fun e w' => ∃ u, e = .returned (.tuple #[u, .int .i64 0]) ∧ RV 6 w' u (n - k) (intC Zq) ∧ Kept wx w'))
    (hflat : Hid (flat 6 (intC Zp) k ++ flat 6 (intC Zq) (n - k) = flat 6 (intC Zp) n)) (h40 : n ≤ 4096) :
    Calls Tryd.prog 10 #[modeV wm di, sizeV ia ib, .slice o n cap, .int .i64 cut] w fun e w' => e = .returned (.bool true) ∧ Kept w w' := by
  have e1 : IntKind.i64.wrap ((n : Int) + 1) = (n : Int) + 1 := IntWalk.i64_in _ (by omega)
  have e2 : IntKind.u64.wrap ((n : Int) + 1) = (n : Int) + 1 := by rw [IntKind.wrap_u64]; omega
  have e3 : IntKind.i64.wrap (k : Int) = (k : Int) := IntWalk.i64_in _ (by omega)
  have e4 : (n : Int) + 1 ≠ 0 := by omega
  have hk : Kept w w := Kept.refl w
  go_enter Tryd.func10, Tryd.ntmps10
  go_wp2_with fail
  refine with_boxes2 ?_
  intro X hX m i
  have hsz := hk.size
  replace hk := hk.trans hX
  clear hX
  replace m_l := m.lt
  replace m_0 := m.at 0 _ rfl
  replace m_1 := m.at 1 _ rfl
  replace i_l := i.lt
  replace i_0 := i.at 0 _ rfl
  replace i_1 := i.at 1 _ rfl
  refine (awake23_any _ (ht.kept hk)).mono ?_
  rintro e w1 ⟨rfl, hn⟩
  replace hk := hk.trans hn
  replace m := m.kept hn
  replace i := i.kept hn
  clear hn
  replace m_l := m.lt
  replace m_0 := m.at 0 _ rfl
  replace m_1 := m.at 1 _ rfl
  replace i_l := i.lt
  replace i_0 := i.at 0 _ rfl
  replace i_1 := i.at 1 _ rfl
  go_wp2_with fail
  refine (H1.out _ hk).mono ?_
  rintro e w1 ⟨u1, rfl, hr1, hn⟩
  replace hk := hk.trans hn
  replace m := m.kept hn
  replace i := i.kept hn
  clear hn
  replace m_l := m.lt
  replace m_0 := m.at 0 _ rfl
  replace m_1 := m.at 1 _ rfl
  replace i_l := i.lt
  replace i_0 := i.at 0 _ rfl
  replace i_1 := i.at 1 _ rfl
  have HC := Lib.hid (fun (W W' : World) (h : Kept w W ∧ W.cell? ⟨w.heap.size, 0, none⟩ = some (.int .i64 wm) ∧ W.cell? ⟨w.heap.size, 1, none⟩ = some (.int .i64 di) ∧ W.cell? ⟨w.heap.size + 1, 0, none⟩ = some (.int .i64 ia) ∧ W.cell? ⟨w.heap.size + 1, 1, none⟩ = some (.int .i64 ib)) (hn : Kept W W') => (show Kept w W' ∧ W'.cell? ⟨w.heap.size, 0, none⟩ = some (.int .i64 wm) ∧ W'.cell? ⟨w.heap.size, 1, none⟩ = some (.int .i64 di) ∧ W'.cell? ⟨w.heap.size + 1, 0, none⟩ = some (.int .i64 ia) ∧ W'.cell? ⟨w.heap.size + 1, 1, none⟩ = some (.int .i64 ib) from ⟨h.1.trans hn, (hn.cell (World.block_lt_of_cell? _ _ h.2.1)).trans h.2.1, (hn.cell (World.block_lt_of_cell? _ _ h.2.2.1)).trans h.2.2.1, (hn.cell (World.block_lt_of_cell? _ _ h.2.2.2.1)).trans h.2.2.2.1, (hn.cell (World.block_lt_of_cell? _ _ h.2.2.2.2)).trans h.2.2.2.2⟩))
  go_wp2_with fail
  have hS : Kept w w1.drew ∧ w1.drew.cell? ⟨w.heap.size, 0, none⟩ = some (.int .i64 wm) ∧ w1.drew.cell? ⟨w.heap.size, 1, none⟩ = some (.int .i64 di) ∧ w1.drew.cell? ⟨w.heap.size + 1, 0, none⟩ = some (.int .i64 ia) ∧ w1.drew.cell? ⟨w.heap.size + 1, 1, none⟩ = some (.int .i64 ib) := ⟨hk.drew, m_0, m_1, i_0, i_1⟩
  go_region_held3 (fun W => Kept w W ∧ W.cell? ⟨w.heap.size, 0, none⟩ = some (.int .i64 wm) ∧ W.cell? ⟨w.heap.size, 1, none⟩ = some (.int .i64 di) ∧ W.cell? ⟨w.heap.size + 1, 0, none⟩ = some (.int .i64 ia) ∧ W.cell? ⟨w.heap.size + 1, 1, none⟩ = some (.int .i64 ib))
    (first | exact hS | assumption | exact HC.out _ _ ‹_› hn)
    (first | (go_at_call 22; (with_reducible refine (H2.out _ ((‹Kept w _ ∧ _›).1)).mono ?_); rintro e w3 ⟨u2, rfl, hr2, hn⟩))
  replace hk := (‹Kept w w3 ∧ _›).1
  replace hn := (Kept.refl w1).drew.trans hn
  replace m := m.kept hn
  replace i := i.kept hn
  replace hr1 := hr1.kept hn
  replace m_l := m.lt
  replace m_0 := m.at 0 _ rfl
  replace m_1 := m.at 1 _ rfl
  replace i_l := i.lt
  replace i_0 := i.at 0 _ rfl
  replace i_1 := i.at 1 _ rfl
  clear hS hn
  go_wp2_with fail
  have hS : Kept w w3.drew ∧ w3.drew.cell? ⟨w.heap.size, 0, none⟩ = some (.int .i64 wm) ∧ w3.drew.cell? ⟨w.heap.size, 1, none⟩ = some (.int .i64 di) ∧ w3.drew.cell? ⟨w.heap.size + 1, 0, none⟩ = some (.int .i64 ia) ∧ w3.drew.cell? ⟨w.heap.size + 1, 1, none⟩ = some (.int .i64 ib) := ⟨hk.drew, m_0, m_1, i_0, i_1⟩
  go_region_held3 (fun W => Kept w W ∧ W.cell? ⟨w.heap.size, 0, none⟩ = some (.int .i64 wm) ∧ W.cell? ⟨w.heap.size, 1, none⟩ = some (.int .i64 di) ∧ W.cell? ⟨w.heap.size + 1, 0, none⟩ = some (.int .i64 ia) ∧ W.cell? ⟨w.heap.size + 1, 1, none⟩ = some (.int .i64 ib))
    (first | exact hS | assumption | exact HC.out _ _ ‹_› hn)
    (first | (go_at_call 22; (with_reducible refine (H3.out _ ((‹Kept w _ ∧ _›).1)).mono ?_); rintro e w5 ⟨u3, rfl, hr3, hn⟩))
  replace hk := (‹Kept w w5 ∧ _›).1
  replace hn := (Kept.refl w3).drew.trans hn
  replace m := m.kept hn
  replace i := i.kept hn
  replace hr1 := hr1.kept hn
  replace hr2 := hr2.kept hn
  replace m_l := m.lt
  replace m_0 := m.at 0 _ rfl
  replace m_1 := m.at 1 _ rfl
  replace i_l := i.lt
  replace i_0 := i.at 0 _ rfl
  replace i_1 := i.at 1 _ rfl
  clear hS hn
  clear HC m i m_l m_0 m_1 i_l i_0 i_1
  obtain ⟨i0, hi, hz0, hz1, hz2⟩ := info_parts piecesInfo
  have hown1 := World.ownsRow_made w5 #[] 0 (Nat.le_refl _) (by decide) (by simp) (e := 70) (size := 6)
  have kr := (Kept.refl w5).alloc (.cells #[] 70)
  have tok1 : True := trivial
  have tok2 : True := trivial
  go_wp2_with (first
    | (go_at_call 17; refine (num_any _ _).mono ?_; rintro e w8 ⟨rfl, hn⟩; obtain rfl := hn)
    | (at_builtin; have _t := tok1; refine wpList_append_rv rfl _ _ 53 rfl w5.heap.size 70 i0 (.agg #[.int .i64 0, .int .i64 0, .int .i64 0, .int .i64 0, .int .i64 0, .int .i64 0]) 6 48 Tryd.underlying53 hi hz0 hz1 hz2 rfl (by decide) _ _ _ rfl hown1 k (intC Zp) (intC_one _) _ rfl (hr2.kept kr) (by unfold maxLen; omega) (by omega) (by simp) ?_; intro v2 w2 hown2 hg2; have kr2 := kr.grown hg2 (row_ge hown1); clear _t tok1)
    | (at_builtin; have _t := tok2; refine wpList_append_rv rfl _ _ 53 rfl w5.heap.size 70 i0 (.agg #[.int .i64 0, .int .i64 0, .int .i64 0, .int .i64 0, .int .i64 0, .int .i64 0]) 6 48 Tryd.underlying53 hi hz0 hz1 hz2 rfl (by decide) _ _ _ rfl hown2 (n - k) (intC Zq) (intC_one _) _ rfl (hr3.kept kr2) (by unfold maxLen; omega) (by omega) kr2.size ?_; intro v4 w4 hown4 hg4; have kr4 := kr2.grown hg4 (row_ge hown2); clear _t tok2))
  have hall : RV 6 w4 v4 n (intC Zp) := by
    have e : ([] ++ flat 6 (intC Zp) k ++ flat 6 (intC Zq) (n - k)) = flat 6 (intC Zp) n := by rw [List.nil_append]; exact hflat.out
    rw [e, show 0 + k + (n - k) = n by omega] at hown4
    exact (newRow_of hown4).rv
  refine (samePieces_yes (hr1.kept kr4) hall (by omega)).mono ?_
  rintro e w9 ⟨rfl, hn⟩
  go_wp2
  go_ret
  exact ⟨rfl, (hk.trans kr4).trans hn⟩
theorem fragRow_walk (wm di ia ib : Int) (v : Value) (n : Nat) (Z : Nat → Nat → Int) (cut : Int) (w : World) (h : RV 6 w v n (intC Z)) (hb : n ≤ 2932031007317) (_hz : ∀ i j, inInt (Z i j)) (ht : Tab w) :
    Calls Tryd.prog 10 #[modeV wm di, sizeV ia ib, v, .int .i64 cut] w fun e w' => e = .returned (.bool true) ∧ Kept w w' := by
  obtain ⟨o, cap, rfl⟩ := h.shape
  have hcap : n ≤ cap := by
    rcases Nat.eq_zero_or_pos n with rfl | hp
    · exact Nat.zero_le _
    · obtain ⟨_, _, _, h, _⟩ := h.row hp
      exact h
  obtain ⟨i, hi, i1, i2⟩ := urest2 cut ((n : Int) + 1) (by omega)
  obtain ⟨k, rfl⟩ := Int.eq_ofNat_of_zero_le i1
  have hk4 : k ≤ n := by omega
  obtain ⟨L, R, hSL, hSR, hvL, hvR⟩ := row_parts o n cap k hk4 Z w h hcap
  have C1 := fun wx (hx : Kept w wx) => fragPieces_any wm di ia ib _ n Z wx (h.kept hx) (by omega) (ht.kept hx)
  have C2 := fun wx (hx : Kept w wx) => fragPieces_any wm di ia ib L k Z wx (hvL.kept hx) (by omega) (ht.kept hx)
  have C3 := fun wx (hx : Kept w wx) => fragPieces_any wm di ia ib R (n - k) (shiftZ k Z) wx (hvR.kept hx) (by omega) (ht.kept hx)
  unfold PiecesAll piecesE piecesN at C1 C2 C3
  cases hB : piecesB wm di ia ib n Z with
  | true =>
    have b1 := part_less hB hk4
    have b2 := part_behind hB hk4
    have h40 : n ≤ 4096 := by
      unfold piecesB at hB
      simp only [Bool.and_eq_true] at hB
      exact (mayF_true.1 hB.1.1).1
    simp only [hB, b1, b2, if_true] at C1 C2 C3
    exact fragRow_yes wm di ia ib cut _ _ o n cap k hk4 L R w hi hb ht hSL hSR
      (Lib.hid (fun wx hx => (C1 wx hx).mono fun e w' ⟨u, he, hr, hk⟩ => ⟨u, he, hr.rv, hk⟩))
      (Lib.hid (fun wx hx => (C2 wx hx).mono fun e w' ⟨u, he, hr, hk⟩ => ⟨u, he, hr.rv, hk⟩))
      (Lib.hid (fun wx hx => (C3 wx hx).mono fun e w' ⟨u, he, hr, hk⟩ => ⟨u, he, hr.rv, hk⟩)) (Lib.hid (flat_parts wm di ia ib hk4 Z)) h40
  | false =>
    cases b1 : piecesB wm di ia ib k Z with
    | false =>
      simp only [hB, b1, if_true, Bool.false_eq_true, if_false] at C1 C2
      exact fragRow_no1 wm di ia ib cut _ o n cap k hk4 L R w hi hb ht hSL hSR
        (Lib.hid (fun wx hx => (C1 wx hx).mono fun e w' ⟨u, he, hr, hk⟩ => ⟨u, he, hk⟩))
        (Lib.hid (fun wx hx => (C2 wx hx).mono fun e w' ⟨u, he, hr, hk⟩ => ⟨u, he, hk⟩))
        (Lib.hid (fun wx hx => (C3 wx hx).mono fun e w' ⟨u, he, hr, hk⟩ => ⟨u, he, hk⟩))
    | true =>
      cases b2 : piecesB wm di ia ib (n - k) (shiftZ k Z) with
      | false =>
        simp only [hB, b1, b2, if_true, Bool.false_eq_true, if_false] at C1 C2 C3
        exact fragRow_no2 wm di ia ib cut o n cap k hk4 L R w hi hb ht hSL hSR
          (Lib.hid (fun wx hx => (C1 wx hx).mono fun e w' ⟨u, he, hr, hk⟩ => ⟨u, he, hk⟩))
          (Lib.hid (fun wx hx => (C2 wx hx).mono fun e w' ⟨u, he, hr, hk⟩ => ⟨u, he, hk⟩))
          (Lib.hid (fun wx hx => (C3 wx hx).mono fun e w' ⟨u, he, hr, hk⟩ => ⟨u, he, hk⟩))
      | true =>
        have hbig : ¬ n ≤ 4096 := fun hn => by rw [parts_all b1 b2 hk4 hn] at hB; cases hB
        simp only [hB, b1, b2, if_true, Bool.false_eq_true, if_false] at C1 C2 C3
        exact fragRow_no3 wm di ia ib cut o n cap k hk4 L R w hi hb ht hSL hSR
          (Lib.hid (fun wx hx => (C1 wx hx).mono fun e w' ⟨u, he, hr, hk⟩ => ⟨u, he, hk⟩))
          (Lib.hid (fun wx hx => (C2 wx hx).mono fun e w' ⟨u, he, hr, hk⟩ => ⟨u, he, hk⟩))
          (Lib.hid (fun wx hx => (C3 wx hx).mono fun e w' ⟨u, he, hr, hk⟩ => ⟨u, he, hk⟩)) (by omega)
end Go.Proofs.YtpeoadnnemlphaaDoor
