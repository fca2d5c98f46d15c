/- Rows of structs, cell by cell: as they come in, as they are made, as they are lent. -/
import Derived.Test.YtpblajjfgnhkdaaDoorBoxes
import Derived.Deep.Slices
import Derived.Deep.AppendSrc
import Derived.Deep.OwnRows
import Derived.Laws.MakeOwn
namespace Go.Proofs.YtpblajjfgnhkdaaDoor
open Go.RowKit Go.Deep Go.ChangeShapes Go.WideShapes
set_option linter.unusedSimpArgs false
set_option linter.unusedVariables false
/-- n structs of k cells each, one behind the other -/
def RowAt (w : World) (b off k n : Nat) (C : Nat → Nat → Value) : Prop := ∀ i j, i < n → j < k → w.cell? ⟨b, off + i * k + j, none⟩ = some (C i j)
theorem RowAt.kept {w w' : World} {b off k n : Nat} {C : Nat → Nat → Value} (h : RowAt w b off k n C) (kp : Kept w w') : RowAt w' b off k n C :=
  fun i j hi hj => (kp.cell (World.block_lt_of_cell? w _ (h i j hi hj))).trans (h i j hi hj)
theorem RowAt.less {w : World} {b off k n m : Nat} {C : Nat → Nat → Value} (h : RowAt w b off k n C) (hm : m ≤ n) : RowAt w b off k m C := fun i j hi hj => h i j (by omega) hj
theorem RowAt.behind {w : World} {b off k n m : Nat} {C : Nat → Nat → Value} (h : RowAt w b off k n C) (hm : m ≤ n) : RowAt w b (off + m * k) k (n - m) (fun i j => C (m + i) j) := fun i j hi hj => by
  have := h (m + i) j (by omega) hj
  rwa [Nat.add_mul, ← Nat.add_assoc] at this
/-- v is a slice of n of them -/
def RV (k : Nat) (w : World) (v : Value) (n : Nat) (C : Nat → Nat → Value) : Prop :=
  (n = 0 ∧ ∃ o cap, v = .slice o 0 cap) ∨ ∃ b off cap, v = .slice (some ⟨b, off, none⟩) n cap ∧ 0 < n ∧ n ≤ cap ∧ RowAt w b off k n C
theorem RV.kept {k : Nat} {w w' : World} {v : Value} {n : Nat} {C : Nat → Nat → Value} (h : RV k w v n C) (kp : Kept w w') : RV k w' v n C := by
  rcases h with h | ⟨b, off, cap, h1, h2, h3, h4⟩
  · exact .inl h
  · exact .inr ⟨b, off, cap, h1, h2, h3, h4.kept kp⟩
theorem RV.shape {k : Nat} {w : World} {v : Value} {n : Nat} {C : Nat → Nat → Value} (h : RV k w v n C) : ∃ o cap, v = .slice o n cap := by
  rcases h with ⟨rfl, o, cap, rfl⟩ | ⟨b, off, cap, rfl, _⟩
  · exact ⟨o, cap, rfl⟩
  · exact ⟨_, cap, rfl⟩
theorem RV.row {k : Nat} {w : World} {o : Option Addr} {n cap : Nat} {C : Nat → Nat → Value} (h : RV k w (.slice o n cap) n C) (hn : 0 < n) : ∃ b off, o = some ⟨b, off, none⟩ ∧ n ≤ cap ∧ RowAt w b off k n C := by
  rcases h with ⟨rfl, _⟩ | ⟨b, off, c, hv, _, h3, h4⟩
  · omega
  · injection hv with e1 e2 e3
    subst e1 e3
    exact ⟨b, off, rfl, h3, h4⟩
theorem row_add (b off n : Nat) : ((⟨b, off, none⟩ : Addr).add n) = ⟨b, off + n, none⟩ := by
  unfold Addr.add
  by_cases h : n = 0
  · subst h; rfl
  · rw [if_neg h]
theorem row_spot {w : World} {b off : Nat} {sp : Option Nat} {v : Value} (h : w.cell? ⟨b, off, sp⟩ = some v) : sp = none := by
  cases sp with
  | none => rfl
  | some k =>
    exfalso
    unfold World.cell? at h
    split at h
    · simp at h
    · simp at h
/-- the cells of n structs -/
def flat (k : Nat) (C : Nat → Nat → Value) : Nat → List Value
  | 0 => []
  | m + 1 => flat k C m ++ (List.range k).map (C m)
theorem flat_length (k : Nat) (C : Nat → Nat → Value) (m : Nat) : (flat k C m).length = m * k := by
  induction m with
  | zero => simp [flat]
  | succ m ih => simp only [flat, List.length_append, ih, List.length_map, List.length_range]; rw [Nat.add_mul, Nat.one_mul]
theorem flat_at (k : Nat) (C : Nat → Nat → Value) (m i j : Nat) (h : i < m) (hj : j < k) : (flat k C m)[i * k + j]? = some (C i j) := by
  induction m with
  | zero => omega
  | succ m ih =>
    have hl := flat_length k C m
    unfold flat
    rcases Nat.lt_or_ge i m with h1 | h1
    · have hle : i * k + j < m * k := by
        have : (i + 1) * k ≤ m * k := Nat.mul_le_mul_right k h1
        rw [Nat.add_mul, Nat.one_mul] at this
        omega
      rw [List.getElem?_append_left (by omega)]
      exact ih h1
    · obtain rfl : i = m := by omega
      rw [List.getElem?_append_right (by omega), hl, Nat.add_sub_cancel_left]
      simp [hj]
theorem flat_cells {w : World} {b off k n : Nat} {C : Nat → Nat → Value} (h : RowAt w b off k n C) : ∀ j u, (flat k C n)[j]? = some u → w.cell? ((⟨b, off, none⟩ : Addr).add j) = some u := by
  intro j u hu
  have hj : j < n * k := by have := (List.getElem?_eq_some_iff.1 hu).1; rwa [flat_length] at this
  have hk : 0 < k := by
    rcases Nat.eq_zero_or_pos k with rfl | hp
    · simp at hj
    · exact hp
  have hd : j / k < n := (Nat.div_lt_iff_lt_mul hk).2 hj
  have hm : j % k < k := Nat.mod_lt _ hk
  have e : j / k * k + j % k = j := by rw [Nat.mul_comm]; exact Nat.div_add_mod j k
  have h1 := flat_at k C n (j / k) (j % k) hd hm
  have h2 := h (j / k) (j % k) hd hm
  rw [e] at h1
  rw [Nat.add_assoc, e] at h2
  rw [row_add, h2, ← h1, hu]
theorem flat_one {k : Nat} {C : Nat → Nat → Value} (hC : ∀ i j, (C i j).oneCell' = true) (n : Nat) : ∀ u ∈ flat k C n, u.oneCell' = true := by
  induction n with
  | zero => intro u hu; cases hu
  | succ n ih =>
    intro u hu
    unfold flat at hu
    rcases List.mem_append.1 hu with h | h
    · exact ih u h
    · obtain ⟨j, _, rfl⟩ := List.mem_map.1 h
      exact hC n j
theorem flat_congr {k : Nat} {C D : Nat → Nat → Value} : ∀ n, (∀ i j, i < n → j < k → C i j = D i j) → flat k C n = flat k D n := by
  intro n
  induction n with
  | zero => exact fun _ => rfl
  | succ n ih =>
    intro h
    unfold flat
    rw [ih fun i j hi hj => h i j (by omega) hj]
    congr 1
    exact List.map_congr_left fun j hj => h n j (by omega) (List.mem_range.1 hj)
theorem flat_add (k : Nat) (C : Nat → Nat → Value) (n : Nat) : ∀ m, flat k C n ++ flat k (fun i j => C (n + i) j) m = flat k C (n + m) := by
  intro m
  induction m with
  | zero => simp [flat]
  | succ m ih =>
    show flat k C n ++ (flat k _ m ++ _) = flat k C (n + m) ++ _
    rw [← List.append_assoc, ih]
    rfl
/-- v is a row of m structs in memory that was made since a -/
def NewRow (t : TypeId) (k : Nat) (a w : World) (v : Value) (m : Nat) (C : Nat → Nat → Value) : Prop :=
  (m = 0 ∧ ∃ o cap, v = .slice o 0 cap ∧ cap ≤ maxLen) ∨ ∃ b cap cur, v = .slice (some ⟨b, 0, none⟩) m cap ∧ 0 < m ∧ m ≤ cap ∧ cap ≤ maxLen ∧ a.heap.size ≤ b ∧ Own w b t cur ∧ cur.size = cap * k ∧
    ∀ i j, i < m → j < k → cur[i * k + j]? = some (C i j)
theorem NewRow.kept {t : TypeId} {k : Nat} {a w w' : World} {v : Value} {m : Nat} {C : Nat → Nat → Value} (hv : NewRow t k a w v m C) (kp : Kept w w') : NewRow t k a w' v m C := by
  rcases hv with h0 | ⟨b, cap, cur, h1, h2, h3, h4, h5, h6, h7, h8⟩
  · exact .inl h0
  · exact .inr ⟨b, cap, cur, h1, h2, h3, h4, h5, h6.kept kp, h7, h8⟩
theorem NewRow.earlier {t : TypeId} {k : Nat} {a c w : World} {v : Value} {m : Nat} {C : Nat → Nat → Value} (hv : NewRow t k a w v m C) (kp : Kept c a) : NewRow t k c w v m C := by
  rcases hv with h0 | ⟨b, cap, cur, h1, h2, h3, h4, h5, h6, h7, h8⟩
  · exact .inl h0
  · exact .inr ⟨b, cap, cur, h1, h2, h3, h4, Nat.le_trans kp.size h5, h6, h7, h8⟩
theorem newRow_none (t : TypeId) (k : Nat) (a w : World) (C : Nat → Nat → Value) : NewRow t k a w (.slice none 0 0) 0 C := .inl ⟨rfl, _, _, rfl, by decide⟩
theorem newRow_of {t : TypeId} {k : Nat} {a w : World} {v : Value} {m : Nat} {C : Nat → Nat → Value} (ho : w.ownsRow a.heap.size t k v m (flat k C m)) : NewRow t k a w v m C := by
  rcases ho.2 with ⟨hv, h0⟩ | ⟨b, cap, cur, hv, hge, hh, hm, hc, hs, ht⟩
  · exact .inl ⟨h0, _, _, hv, by decide⟩
  · rcases Nat.eq_zero_or_pos m with rfl | hpos
    · exact .inl ⟨rfl, _, _, hv, hc⟩
    · refine .inr ⟨b, cap, cur, hv, hpos, hm, hc, hge, ⟨hh⟩, hs, fun i j hi hj => ?_⟩
      have hle : i * k + j < m * k := by
        have : (i + 1) * k ≤ m * k := Nat.mul_le_mul_right k hi
        rw [Nat.add_mul, Nat.one_mul] at this
        omega
      have : cur[i * k + j]? = (flat k C m)[i * k + j]? := by rw [← ht, List.getElem?_take_of_lt hle]; simp
      rw [this]
      exact flat_at k C m i j hi hj
theorem rowAt_own {w : World} {b : Nat} {t : TypeId} {k n : Nat} {cur : Array Value} {C : Nat → Nat → Value} (h : Own w b t cur) (hc : ∀ i j, i < n → j < k → cur[i * k + j]? = some (C i j)) : RowAt w b 0 k n C :=
  fun i j hi hj => by rw [Nat.zero_add]; exact (h.cell _).trans (hc i j hi hj)
theorem NewRow.rv {t : TypeId} {k : Nat} {a w : World} {v : Value} {m : Nat} {C : Nat → Nat → Value} (hv : NewRow t k a w v m C) : RV k w v m C := by
  rcases hv with ⟨h0, o, cap, h1, _⟩ | ⟨b, cap, cur, h1, h2, h3, h4, h5, h6, h7, h8⟩
  · exact .inl ⟨h0, o, cap, h1⟩
  · exact .inr ⟨b, 0, cap, h1, h2, h3, rowAt_own h6 h8⟩
/-- a slice over a block of the call's own -/
theorem rv_lit {w : World} {b : Nat} {t : TypeId} {cur : Array Value} (h : Own w b t cur) (k n : Nat) (hn : 0 < n) (C : Nat → Nat → Value) (hc : cur.toList = flat k C n) : RV k w (.slice (some ⟨b, 0, none⟩) n n) n C :=
  .inr ⟨b, 0, n, rfl, hn, Nat.le_refl _, rowAt_own h fun i j hi hj => by rw [← Array.getElem?_toList, hc]; exact flat_at k C n i j hi hj⟩
theorem Kept.noRow {w w' : World} (h : Kept w w') : w.grownBy w' none := ⟨h.below.os, h.below.tape, h.below.output, h.size, fun k hk _ => h.below.block k hk⟩
theorem ownsRow_kept {w w' : World} {base : Nat} {e : TypeId} {size : Nat} {v : Value} {n : Nat} {xs : List Value} (h : w.ownsRow base e size v n xs) (k : Kept w w') : w'.ownsRow base e size v n xs :=
  h.kept k.noRow (by cases v.ownBlock <;> simp)
/-- a row of the call's own, under one name -/
structure OR (w : World) (base : Nat) (e : TypeId) (size : Nat) (v : Value) (n : Nat) (xs : List Value) : Prop where
  own : w.ownsRow base e size v n xs
theorem OR.kept {w w' : World} {base : Nat} {e : TypeId} {size : Nat} {v : Value} {n : Nat} {xs : List Value} (h : OR w base e size v n xs) (k : Kept w w') : OR w' base e size v n xs := ⟨ownsRow_kept h.own k⟩
theorem OR.drew {w : World} {base : Nat} {e : TypeId} {size : Nat} {v : Value} {n : Nat} {xs : List Value} (h : OR w base e size v n xs) : OR w.drew base e size v n xs := h.kept (Kept.refl w).drew
/-- numbers -/
def intC (Z : Nat → Nat → Int) (i j : Nat) : Value := .int .i64 (Z i j)
theorem intC_one (Z : Nat → Nat → Int) : ∀ i j, (intC Z i j).oneCell' = true := fun _ _ => rfl
theorem made_row {zs : Array Value} {k n : Nat} {v : Value} (hs : zs.size = k) (hz : zs = Array.replicate k v) (hk : 0 < k) (i j : Nat) (hi : i < n) (hj : j < k) : (madeCells zs (n * k))[i * k + j]? = some v := by
  have hlt : i * k + j < n * k := by
    have : (i + 1) * k ≤ n * k := Nat.mul_le_mul_right k hi
    rw [Nat.add_mul, Nat.one_mul] at this
    omega
  unfold madeCells
  rw [Array.getElem?_map, Array.getElem?_range, if_pos hlt]
  have hm : (i * k + j) % zs.size < zs.size := Nat.mod_lt _ (by omega)
  show some (zs[(i * k + j) % zs.size]!) = some v
  rw [getElem!_pos zs _ hm]
  subst hz
  simp
/-- two more behind n -/
def exC (n : Nat) (X : Nat → Value) (C : Nat → Nat → Value) (i j : Nat) : Value := if i < n then C i j else X j
theorem flat_lent (k n : Nat) (X : Nat → Value) (C : Nat → Nat → Value) : flat k C n ++ ((List.range k).map X ++ (List.range k).map X) = flat k (exC n X C) (n + 2) := by
  have h1 : flat k C n = flat k (exC n X C) n := flat_congr n fun i j hi _ => by simp [exC, hi]
  show _ = (flat k (exC n X C) n ++ _) ++ _
  rw [h1, List.append_assoc]
  have hn : ¬ (n + 1 < n) := by omega
  congr 1
  congr 1
  · exact List.map_congr_left fun j _ => by simp [exC]
  · exact List.map_congr_left fun j _ => by simp [exC, hn]
/-- structs that are lent: a row of the call's own, two more behind what is seen -/
def LentRow (t : TypeId) (k : Nat) (X : Nat → Value) (w : World) (v : Value) (n : Nat) (C : Nat → Nat → Value) : Prop :=
  ∃ g cap cur, v = .slice (some ⟨g, 0, none⟩) n cap ∧ n + 2 ≤ cap ∧ cap ≤ maxLen ∧ Own w g t cur ∧ ∀ i j, i < n + 2 → j < k → cur[i * k + j]? = some (exC n X C i j)
theorem LentRow.kept {t : TypeId} {k : Nat} {X : Nat → Value} {w w' : World} {v : Value} {n : Nat} {C : Nat → Nat → Value} (h : LentRow t k X w v n C) (kp : Kept w w') : LentRow t k X w' v n C := by
  obtain ⟨g, cap, cur, h1, h2, h3, h5, h6⟩ := h
  exact ⟨g, cap, cur, h1, h2, h3, h5.kept kp, h6⟩
theorem LentRow.rv {t : TypeId} {k : Nat} {X : Nat → Value} {w : World} {v : Value} {n : Nat} {C : Nat → Nat → Value} (h : LentRow t k X w v n C) : RV k w v n C := by
  obtain ⟨g, cap, cur, rfl, h2, h3, h5, h6⟩ := h
  rcases Nat.eq_zero_or_pos n with rfl | hp
  · exact .inl ⟨rfl, _, _, rfl⟩
  · exact .inr ⟨g, 0, cap, rfl, hp, by omega, rowAt_own h5 fun i j hi hj => by rw [h6 i j (by omega) hj]; simp [exC, hi]⟩
theorem row_more {t : TypeId} {k : Nat} {a w : World} {v : Value} {n : Nat} {xs : List Value} (h : w.ownsRow a.heap.size t k v (n + 2) xs) : ∃ g cap, v = .slice (some ⟨g, 0, none⟩) (n + 2) cap ∧ n + 2 ≤ cap := by
  rcases h.2 with ⟨_, h0⟩ | ⟨g, cap, cur, hv, hge, hh, hm, _⟩
  · omega
  · exact ⟨g, cap, hv, hm⟩
theorem lentRow_of {t : TypeId} {k : Nat} {X : Nat → Value} {a w : World} {n g cap : Nat} {C : Nat → Nat → Value} (ho : w.ownsRow a.heap.size t k (.slice (some ⟨g, 0, none⟩) (n + 2) cap) (n + 2) (flat k (exC n X C) (n + 2))) :
    LentRow t k X w (.slice (some ⟨g, 0, none⟩) n cap) n C := by
  rcases newRow_of ho with ⟨h0, _⟩ | ⟨b, cap2, cur, hv, h2, h3, h4, h5, h6, h7, h8⟩
  · omega
  · injection hv with e1 e2 e3
    injection e1 with e1
    injection e1 with e1 _ _
    subst e1 e3
    exact ⟨_, _, cur, rfl, h3, h4, h6, h8⟩
/-- nothing is appended to a row that has none -/
theorem append_nothing {P : Program} (w : World) {ops : Array Oper} {rest : List Oper} {o : Oper} {a : Act} {Q : Exit → Act → World → Prop} (hgd : o.guard = none) (s x : Operand) (t : TypeId)
    (ho : o.op = .call { callee := .builtin .append, args := #[s, x], argTypes := #[t, t] }) (e : TypeId) (i : TypeInfo) (ht : P.underlying t = some (.slice e)) (hi : P.info? e = some i)
    (g sc c : Nat) (hs : a.eval s = .slice (some ⟨g, 0, none⟩) 0 sc) (hx : a.eval x = .slice none 0 c)
    (h : wpList P ops Q rest (a.put o.dst (.slice (some ⟨g, 0, none⟩) 0 sc)) w) : wpList P ops Q (o :: rest) a w := by
  refine wpList_plain hgd fun K hK => ?_
  have hr := run_append_room_src (P := P) w t t o.type e i ht hi g 0 0 sc (.slice none 0 c) 0 [] (Src.ofNil w ht c) (Nat.zero_le _) (fun j hj => by simp at hj) (fun j hj => by simp at hj)
  unfold Oper.wp execOp
  simp only [ho, resolve, invoke, builtin, Sem.run_bind, Sem.run_pure, Result.andThen_ok, List.map_toArray, List.map_cons, List.map_nil, hs, hx, hr]
  exact hK _ _ h
/-- numbers in one cell of each, from lo on -/
def NumAt (cur : Array Value) (k f lo m : Nat) : Prop := ∀ i, lo ≤ i → i < m → ∃ x : Int, cur[i * k + f]? = some (.int .i64 x)
theorem NumAt.set {cur : Array Value} {k f lo m : Nat} (hk : 0 < k) (h : NumAt cur k f lo m) (v : Value) : NumAt (cur.setIfInBounds (lo * k + f) v) k f (lo + 1) m := by
  intro i hi hm
  obtain ⟨x, hx⟩ := h i (by omega) hm
  have hne : lo * k + f ≠ i * k + f := by
    have : lo * k < i * k := Nat.mul_lt_mul_of_pos_right (by omega) hk
    omega
  exact ⟨x, by rw [Array.getElem?_setIfInBounds_ne hne]; exact hx⟩
end Go.Proofs.YtpblajjfgnhkdaaDoor
