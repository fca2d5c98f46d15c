/- Layer 8: the document's Decimal. -/
import Derived.Test.YtnbagilcbngdcaaDoorShape
import Derived.Test.YtnbagilcbngdcaaDoorMg1
import Derived.Laws.AppendOwnNone
import Derived.Laws.IdiomStrings
import Derived.Deep.AppendSrc
import Derived.Test.YtnbagilcbngdcaaDoorRow
import Derived.Lib.ItoaLen
namespace Go.Proofs.YtnbagilcbngdcaaDoor
open Go.RowKit Go.Deep Go.ChangeShapes Go.WideShapes
set_option linter.unusedSimpArgs false
set_option linter.unusedVariables false
theorem byteInfo : (Tryd.prog.info? 5).map (fun i => (i.zero, i.size, i.bytes)) = some (some (.int .u8 0), 1, 1) := by kernel_rfl
/-- an own row is appended onto an own row -/
theorem wpList_append_owns {P : Program} {w : World} {ops : Array Oper} {rest : List Oper} {o : Oper} {a : Act} {Q : Exit → Act → World → Prop} (hgd : o.guard = none) (s x : Operand) (t : TypeId)
    (ho : o.op = .call { callee := .builtin .append, args := #[s, x], argTypes := #[t, t] })
    (base : Nat) (e : TypeId) (i : TypeInfo) (z : Value) (size bytes : Nat) (ht : P.underlying t = some (.slice e)) (hi : P.info? e = some i) (hz : i.zero = some z)
    (hsize : i.size = size) (hby : i.bytes = bytes) (hzs : z.cells.size = size) (hsz : 0 < size)
    (v : Value) (n : Nat) (xs : List Value) (hs : a.eval s = v) (hown : w.ownsRow base e size v n xs)
    (base2 : Nat) (y : Value) (m : Nat) (ys : List Value) (hy : a.eval x = y) (hown2 : w.ownsRow base2 e size y m ys) (h1 : ∀ u ∈ ys, u.oneCell' = true)
    (h63 : n + m ≤ maxLen) (hbytes : (n + m) * bytes ≤ 140737488355328) (hbase : base ≤ w.heap.size)
    (h : ∀ v' w', w'.ownsRow base e size v' (n + m) (xs ++ ys) → w.grownBy w' v.ownBlock → wpList P ops Q rest (a.put o.dst v') w') : wpList P ops Q (o :: rest) a w := by
  have hl := hown2.1
  rcases hown2.2 with ⟨rfl, rfl⟩ | ⟨g, cap, cur, rfl, _⟩
  · have e0 : ys = [] := List.eq_nil_of_length_eq_zero (by simpa using hl)
    subst e0
    exact wpList_append_own_none hgd s x t ho base e i size ht hi v n xs hs hown hy (h v w (by simpa using hown) ⟨rfl, rfl, rfl, Nat.le_refl _, fun _ _ _ => rfl⟩)
  · exact wpList_append_own w hgd s x t ho base e i z size bytes ht hi hz hsize hby hzs hsz v n xs hs hown ⟨g, 0, none⟩ m cap ys hy hl (hown2.cells (g := g) rfl) h1 h63 hbytes hbase fun v' w' h1 h2 _ => h v' w' h1 h2
def sliceLen : Value → Nat | .slice _ n _ => n | _ => 0
theorem owns_sliceLen {w : World} {base : Nat} {e : TypeId} {size : Nat} {v : Value} {m : Nat} {xs : List Value} (h : w.ownsRow base e size v m xs) : sliceLen v = m := by obtain ⟨o, c, rfl⟩ := row_len h; rfl
def u8s (l : List UInt8) : List Value := l.map fun b => .int .u8 (b.toNat : Int)
theorem u8s_one (l : List UInt8) : ∀ u ∈ u8s l, u.oneCell' = true := fun u hu => by obtain ⟨b, _, rfl⟩ := List.mem_map.1 hu; rfl
def restD (d : Nat) : List UInt8 := if d = 0 then [] else Lib.decDigits d
theorem restD_step {d : Nat} (h : 0 < d) : restD d = restD (d / 10) ++ [UInt8.ofNat (48 + d % 10)] := by
  unfold restD
  rw [if_neg (by omega)]
  by_cases h1 : d < 10
  · rw [Lib.decDigits_one h1, if_pos (by omega), show d % 10 = d by omega]; rfl
  · rw [if_neg (by omega)]
    conv => lhs; rw [Lib.decDigits, dif_neg h1]
set_option maxRecDepth 20000 in
set_option maxHeartbeats 4000000 in
theorem decimal_any (n : Nat) (hn : n ≤ 100000) (w : World) :
    Calls Tryd.prog 26 #[.int .i64 (n : Int)] w fun e w' => e = .returned (.string ⟨(Lib.decDigits n).toArray⟩) ∧ Kept w w' := by
  obtain ⟨i0, hi, hz0, hz1, hz2⟩ := info_parts byteInfo
  have w0 : IntKind.u64.wrap (n : Int) = n := by rw [IntKind.wrap_u64]; omega
  have n0 : ¬ (n : Int) < 0 := by omega
  have hk := Kept.refl w
  go_enter Tryd.func26, Tryd.ntmps26
  go_wp2
  go_loopw [3, 4] (fun d u wx => ∃ (D m : Nat) (l : List UInt8), d = .int .u64 (D : Int) ∧ D ≤ n ∧ l.length = m ∧ wx.ownsRow w.heap.size 5 1 u m (u8s l) ∧ Kept w wx ∧ ((m = 0 ∧ D = n) ∨ (0 < m ∧ restD D ++ l = Lib.decDigits n))) (fun d u _ => (intOf d).toNat + (1 - sliceLen u))
  case atStart => exact ⟨n, 0, [], rfl, Nat.le_refl _, rfl, World.ownsRow_nil _ _ _ _, Kept.refl _, .inl ⟨rfl, rfl⟩⟩
  case round =>
    obtain ⟨D, m, l, rfl, hD, hl, hown, hk1, hst⟩ := hrel
    have hlen : (Lib.decDigits n).length ≤ 21 := by
      have := Lib.itoa_length_le (n : Int) (by omega) (by omega)
      unfold Lib.itoa at this
      rw [if_neg (by omega)] at this
      simpa using this
    have hm : m ≤ 21 := by
      rcases hst with ⟨h, _⟩ | ⟨_, h⟩
      · omega
      · rw [← h, List.length_append] at hlen; omega
    by_cases hgo : 0 < D ∨ m = 0
    · have hnew : restD (D / 10) ++ (UInt8.ofNat (48 + D % 10) :: l) = Lib.decDigits n := by
        rcases hst with ⟨h0, rfl⟩ | ⟨_, h⟩
        · have hl0 : l = [] := List.eq_nil_of_length_eq_zero (by omega)
          subst hl0
          rcases Nat.eq_zero_or_pos D with rfl | hp
          · rw [Lib.decDigits_one (by decide)]; rfl
          · rw [← restD_step hp]; unfold restD; rw [if_neg (by omega)]
        · rcases hgo with hp | h0
          · rw [← h, restD_step hp, List.append_assoc]; rfl
          · omega
      have HN := Lib.hid hnew
      have HL := Lib.hid hl
      have HG := Lib.hid hgo
      obtain ⟨o, cap, rfl⟩ := row_len hown
      have g1 : ((m : Int) == 0) = decide (m = 0) := by cases m with | zero => rfl | succ k => simp; omega
      have r1 : ((D : Int).tmod 10) = ((D % 10 : Nat) : Int) := by rw [Int.tmod_eq_emod_of_nonneg (by omega)]; rfl
      have q1 : ((D : Int).tdiv 10) = ((D / 10 : Nat) : Int) := by rw [Int.tdiv_eq_ediv_of_nonneg (by omega)]; rfl
      have hr10 : D % 10 < 10 := Nat.mod_lt _ (by decide)
      have hq10 : D / 10 ≤ D := Nat.div_le_self _ _
      have hq11 : 0 < D → D / 10 < D := fun h => by omega
      clear hst hnew hl hgo hlen
      generalize D % 10 = r at *
      generalize D / 10 = q at *
      have w1 : IntKind.u64.wrap (48 + (r : Int)) = 48 + r := by rw [IntKind.wrap_u64]; omega
      have w2 : IntKind.u8.wrap (48 + (r : Int)) = 48 + r := by rw [IntKind.wrap_u8]; omega
      have he : u8s (UInt8.ofNat (48 + r) :: l) = .int .u8 (48 + (r : Int)) :: u8s l := by
        unfold u8s
        rw [List.map_cons]
        have e : (UInt8.ofNat (48 + r)).toNat = 48 + r := by simp; omega
        rw [e]
        rfl
      have hown1 : (wr.alloc (.cells #[.int .u8 (48 + (r : Int))] 5)).ownsRow w.heap.size 5 1 (.slice (some ⟨wr.heap.size, 0, none⟩) 1 1) 1 [.int .u8 (48 + (r : Int))] :=
        ⟨rfl, .inr ⟨wr.heap.size, 1, #[.int .u8 (48 + (r : Int))], rfl, hk1.size, heap_alloc_new _ _, Nat.le_refl _, by decide, rfl, rfl⟩⟩
      rcases Nat.eq_zero_or_pos D with hD0 | hD0
      · have hm0 : m = 0 := by have := HG.out; omega
        subst hD0 hm0
        have hr0 : r = 0 := by have := r1; simp at this; omega
        have hq0 : q = 0 := by omega
        subst hr0 hq0
        clear hown1
        have hown0 : (wr.alloc (.cells #[.int .u8 48] 5)).ownsRow w.heap.size 5 1 (.slice (some ⟨wr.heap.size, 0, none⟩) 1 1) 1 [.int .u8 48] :=
          ⟨rfl, .inr ⟨wr.heap.size, 1, #[.int .u8 48], rfl, hk1.size, heap_alloc_new _ _, Nat.le_refl _, by decide, rfl, rfl⟩⟩
        go_wp2_with (at_builtin; refine wpList_append_owns rfl _ _ 80 rfl w.heap.size 5 i0 (.int .u8 0) 1 1 Tryd.underlying80 hi hz0 hz1 hz2 rfl (by decide) _ _ _ rfl hown0 w.heap.size _ 0 (u8s l) rfl (hown.alloc _) (u8s_one l) (by unfold maxLen; omega) (by omega) (by simp; have := hk1.size; omega) ?_; intro v2 w2 hown3 hg2)
        have hkk := (hk1.alloc (.cells #[.int .u8 48] 5)).grown hg2 (row_ge hown0)
        exact ⟨⟨0, 0 + 1, UInt8.ofNat (48 + 0) :: l, rfl, by omega, by rw [List.length_cons, HL.out], by rw [he, Nat.add_comm]; exact hown3, hkk, .inr ⟨by omega, HN.out⟩⟩, by have e9 := owns_sliceLen hown3; simp only [e9]; first | (simp [intOf, sliceLen]; done) | (simp [intOf, sliceLen]; omega)⟩
      · have hD1 : (0 : Int) < (D : Int) := by omega
        have hqD := hq11 hD0
        go_wp2_with (at_builtin; refine wpList_append_owns rfl _ _ 80 rfl w.heap.size 5 i0 (.int .u8 0) 1 1 Tryd.underlying80 hi hz0 hz1 hz2 rfl (by decide) _ _ _ rfl hown1 w.heap.size _ m (u8s l) rfl (hown.alloc _) (u8s_one l) (by unfold maxLen; omega) (by omega) (by simp; have := hk1.size; omega) ?_; intro v2 w2 hown3 hg2)
        have hkk := (hk1.alloc (.cells #[.int .u8 (48 + (r : Int))] 5)).grown hg2 (row_ge hown1)
        exact ⟨⟨q, m + 1, UInt8.ofNat (48 + r) :: l, rfl, by omega, by rw [List.length_cons, HL.out], by rw [he, Nat.add_comm]; exact hown3, hkk, .inr ⟨by omega, HN.out⟩⟩, by have e9 := owns_sliceLen hown3; simp only [e9]; first | (simp [intOf, sliceLen]; done) | (simp [intOf, sliceLen]; omega)⟩
    · have hDl : l = Lib.decDigits n := by
        rcases hst with ⟨h0, _⟩ | ⟨_, h⟩
        · omega
        · rw [← h, show D = 0 by omega]; rfl
      have hD0 : D = 0 := by omega
      have hm0 : 0 < m := by omega
      obtain ⟨g, cap, rfl, hc, _, _⟩ := row_shape hown hm0
      subst hD0 hl
      have hne : ((l.length : Int) == 0) = false := by simp; intro h; rw [h] at hm0; exact absurd hm0 (by decide)
      have hcv := run_convert_bytes_back (P := Tryd.prog) wr 80 9 5 ⟨g, 0, none⟩ cap l Tryd.underlying80 Tryd.underlying5 Tryd.underlying9 (fun j hj => hown.cells (g := g) rfl j _ (by simp [u8s, hj]))
      have HD := Lib.hid hDl
      clear hst hgo hDl hlen hm0
      go_wp2
      go_ret
      exact ⟨by rw [← HD.out]; rfl, hk1⟩
end Go.Proofs.YtnbagilcbngdcaaDoor
