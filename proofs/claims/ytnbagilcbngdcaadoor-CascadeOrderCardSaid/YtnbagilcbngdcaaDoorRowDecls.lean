/- Rows of forme/api.Decl: copied, lent, compared, kept, written over. -/
import Derived.Test.YtnbagilcbngdcaaDoorRow
import Derived.Test.YtnbagilcbngdcaaDoorDecls10
import Derived.Deep.QuietTactic
import Derived.BigQuiet
import Derived.Laws.MakeOwn
namespace Go.Proofs.YtnbagilcbngdcaaDoor
open Go.RowKit Go.Deep Go.ChangeShapes Go.WideShapes
set_option linter.unusedSimpArgs false
set_option linter.unusedVariables false
theorem declsInfo : (Tryd.prog.info? 53).map (fun i => (i.zero, i.size, i.bytes)) = some (some (.agg #[.int .i64 0, .string ⟨#[]⟩]), 2, 24) := by kernel_rfl
def declsX (j : Nat) : Value := if j = 0 then .int .i64 77777 else .string ⟨#[]⟩
theorem declC_one (P : Nat → Int) (T : Nat → ByteArray) : ∀ i j, (declC P T i j).oneCell' = true := fun i j => by unfold declC; split <;> rfl
set_option maxHeartbeats 1000000 in
theorem copyDecls_some (b off n cap : Nat) (C : Nat → Nat → Value) (hC : ∀ i j, (C i j).oneCell' = true) (w : World) (hw : RowAt w b off 2 n C) (hb : n ≤ 5864062014634) :
    Calls Tryd.prog 33 #[.slice (some ⟨b, off, none⟩) n cap] w fun e w' => ∃ v, e = .returned v ∧ w'.ownsRow w.heap.size 53 2 v n (flat 2 C n) ∧ Kept w w' := by
  obtain ⟨i0, hi, hz0, hz1, hz2⟩ := info_parts declsInfo
  go_enter Tryd.func33, Tryd.ntmps33
  go_wp2_with (at_builtin; refine wpList_append_own _ rfl _ _ 39 rfl w.heap.size 53 i0 (.agg #[.int .i64 0, .string ⟨#[]⟩]) 2 24 Tryd.underlying39 hi hz0 hz1 hz2 rfl (by decide) _ _ _ rfl (World.ownsRow_made w #[] 0 (Nat.le_refl _) (by decide) (by simp)) ⟨b, off, none⟩ n cap (flat 2 C n) rfl (flat_length _ _ _) (flat_cells (hw.kept ((Kept.refl w).alloc _))) (flat_one hC n) (by unfold maxLen; omega) (by omega) (by simp) ?_; intro v2 w2 hown2 hg2 _)
  go_ret
  refine ⟨_, rfl, by simpa using hown2, ?_⟩
  exact ((Kept.refl w).alloc _).grown hg2 (row_ge (World.ownsRow_made w #[] 0 (Nat.le_refl _) (by decide) (by simp) (e := 53) (size := 2)))
set_option maxHeartbeats 1000000 in
theorem copyDecls_none (o : Option Addr) (cap : Nat) (w : World) :
    Calls Tryd.prog 33 #[.slice o 0 cap] w fun e w' => ∃ v, e = .returned v ∧ w'.ownsRow w.heap.size 53 2 v 0 [] ∧ Kept w w' := by
  obtain ⟨i0, hi, hz0, hz1, hz2⟩ := info_parts declsInfo
  have hown := World.ownsRow_made w #[] 0 (Nat.le_refl _) (by decide) (by simp) (e := 53) (size := 2)
  cases o with
  | none =>
    go_enter Tryd.func33, Tryd.ntmps33
    go_wp2_with (at_builtin; refine append_nothing _ rfl _ _ 39 rfl 53 i0 Tryd.underlying39 hi _ _ _ rfl rfl ?_)
    go_ret
    exact ⟨_, rfl, hown, (Kept.refl w).alloc _⟩
  | some ad =>
    go_enter Tryd.func33, Tryd.ntmps33
    go_wp2_with (at_builtin; refine wpList_append_own _ rfl _ _ 39 rfl w.heap.size 53 i0 (.agg #[.int .i64 0, .string ⟨#[]⟩]) 2 24 Tryd.underlying39 hi hz0 hz1 hz2 rfl (by decide) _ _ _ rfl hown ad 0 cap [] rfl rfl (fun j u hu => by cases hu) (fun u hu => by cases hu) (by decide) (by decide) (by simp) ?_; intro v2 w2 hown2 hg2 _)
    go_ret
    refine ⟨_, rfl, by simpa using hown2, ?_⟩
    exact ((Kept.refl w).alloc _).grown hg2 (row_ge hown)
theorem copyDecls_any (v : Value) (n : Nat) (C : Nat → Nat → Value) (hC : ∀ i j, (C i j).oneCell' = true) (w : World) (h : RV 2 w v n C) (hb : n ≤ 5864062014634) :
    Calls Tryd.prog 33 #[v] w fun e w' => ∃ v, e = .returned v ∧ w'.ownsRow w.heap.size 53 2 v n (flat 2 C n) ∧ Kept w w' := by
  rcases h with ⟨rfl, o, cap, rfl⟩ | ⟨b, off, cap, rfl, h2, h3, hw⟩
  · exact copyDecls_none o cap w
  · exact copyDecls_some b off n cap C hC w hw hb
set_option maxHeartbeats 1000000 in
theorem lendDecls_any (sl : Option Addr) (n cap : Nat) (C : Nat → Nat → Value) (hC : ∀ i j, (C i j).oneCell' = true) (w : World) (h : RV 2 w (.slice sl n cap) n C) (hb : n ≤ 5864062014634) :
    Calls Tryd.prog 17 #[.slice sl n cap] w fun e w' => ∃ v, e = .returned v ∧ LentRow 53 2 declsX w' v n C ∧ Kept w w' := by
  obtain ⟨i0, hi, hz0, hz1, hz2⟩ := info_parts declsInfo
  have hk : Kept w w := Kept.refl w
  go_enter Tryd.func17, Tryd.ntmps17
  go_wp2_with fail
  refine (copyDecls_any _ n C hC _ h hb).mono ?_
  rintro e w1 ⟨v, rfl, hown, hn⟩
  replace hk := hk.trans hn
  clear hn
  go_wp2_with (at_builtin; refine wpList_append_own _ rfl _ _ 39 rfl w.heap.size 53 i0 (.agg #[.int .i64 0, .string ⟨#[]⟩]) 2 24 Tryd.underlying39 hi hz0 hz1 hz2 rfl (by decide) _ _ _ rfl (hown.alloc _) ⟨w1.heap.size, 0, none⟩ 2 2 [.int .i64 77777, .string ⟨#[]⟩, .int .i64 77777, .string ⟨#[]⟩] rfl rfl (lit_cells w1 #[.int .i64 77777, .string ⟨#[]⟩, .int .i64 77777, .string ⟨#[]⟩] 53) (by simp [Value.oneCell']) (by unfold maxLen; omega) (by omega) (by simp; have := hk.size; omega) ?_; intro v2 w2 hown2 hg2 _; obtain ⟨g, cp, rfl, hgc⟩ := row_more hown2)
  go_ret
  have hkk := ((hk.alloc _).grown hg2 (row_ge hown))
  refine ⟨_, rfl, ?_, by simpa using hkk⟩
  exact lentRow_of (by rw [← flat_lent]; exact hown2)
theorem sameDecls_none (o1 o2 : Option Addr) (c1 c2 : Nat) (w : World) :
    Calls Tryd.prog 49 #[.slice o1 0 c1, .slice o2 0 c2] w fun e w' => e = .returned (.bool true) ∧ Kept w w' := by
  go_enter Tryd.func49, Tryd.ntmps49
  go_wp2
  refine wp_loop_rounds 1 ?_
  rw [rounds_succ]
  go_wp2
  go_ret
  exact ⟨rfl, Kept.refl _⟩
set_option maxHeartbeats 1000000 in
theorem sameDecls_some (b1 o1 c1 b2 o2 c2 n : Nat) (P : Nat → Int) (T : Nat → ByteArray) (w : World) (h1 : RowAt w b1 o1 2 n (declC P T)) (h2 : RowAt w b2 o2 2 n (declC P T)) (hn : n ≤ 5864062014634) :
    Calls Tryd.prog 49 #[.slice (some ⟨b1, o1, none⟩) n c1, .slice (some ⟨b2, o2, none⟩) n c2] w fun e w' => e = .returned (.bool true) ∧ Kept w w' := by
  go_enter Tryd.func49, Tryd.ntmps49
  go_wp2
  go_loopw [5] (fun i wx => ∃ k : Nat, k ≤ n ∧ i = .int .i64 k ∧ Kept w wx) (fun i _ => n - (intOf i).toNat)
  case atStart => exact ⟨0, Nat.zero_le _, rfl, Kept.refl _⟩
  case round =>
    obtain ⟨k, hk4, rfl, hk⟩ := hrel
    by_cases hlt : k < n
    · have x0 : wr.cell? ⟨b1, o1 + k * 2, none⟩ = some (.int .i64 (P k)) := (h1.kept hk) k 0 hlt (by decide)
      have x1 : wr.cell? ⟨b1, o1 + k * 2 + 1, none⟩ = some (.string (T k)) := (h1.kept hk) k 1 hlt (by decide)
      have y0 : wr.cell? ⟨b2, o2 + k * 2, none⟩ = some (.int .i64 (P k)) := (h2.kept hk) k 0 hlt (by decide)
      have y1 : wr.cell? ⟨b2, o2 + k * 2 + 1, none⟩ = some (.string (T k)) := (h2.kept hk) k 1 hlt (by decide)
      generalize P k = z0 at *
      generalize T k = z1 at *
      have hi0 : (0 : Int) ≤ (k : Int) := Int.natCast_nonneg _
      have hi1 : (k : Int) < (n : Int) := by omega
      go_wp2
      go_quiet (fail)
      go_wp2
      go_roundw
      case rel => exact ⟨k + 1, by omega, by go_num, (by first | ((repeat (first | with_reducible exact hk | with_reducible refine Kept.alloc ?_ _ | with_reducible refine Kept.drew ?_ | with_reducible refine Kept.drewN ?_ _ | with_reducible refine Kept.set ?_ (by first | (simp; done) | (simp; omega) | omega) _)); done) | exact hk | exact (hk.alloc _) | exact ((hk.alloc _).alloc _) | exact (((hk.alloc _).alloc _).alloc _) | exact ((((hk.alloc _).alloc _).alloc _).alloc _) | exact (((((hk.alloc _).alloc _).alloc _).alloc _).alloc _) | exact ((((((hk.alloc _).alloc _).alloc _).alloc _).alloc _).alloc _) | (repeat (first | exact hk | refine Kept.alloc ?_ _ | refine Kept.drew ?_ | refine Kept.drewN ?_ _ | refine Kept.set ?_ (by first | (simp; done) | (simp; omega) | omega) _)))⟩
      case measure => simp [intOf]; omega
    · go_wp2
      go_ret
      exact ⟨rfl, hk⟩
theorem sameDecls_yes {w : World} {v1 v2 : Value} {n : Nat} {P : Nat → Int} {T : Nat → ByteArray} (h1 : RV 2 w v1 n (declC P T)) (h2 : RV 2 w v2 n (declC P T)) (hn : n ≤ 5864062014634) :
    Calls Tryd.prog 49 #[v1, v2] w fun e w' => e = .returned (.bool true) ∧ Kept w w' := by
  rcases h1 with ⟨rfl, o, c, rfl⟩ | ⟨b, o, c, rfl, hp, _, g1⟩ <;> rcases h2 with ⟨h0, o2, c2, rfl⟩ | ⟨b2, o2, c2, rfl, hp2, _, g2⟩
  · exact sameDecls_none _ _ _ _ w
  · omega
  · omega
  · exact sameDecls_some _ _ _ _ _ _ n P T w g1 g2 hn
set_option maxHeartbeats 1000000 in
theorem keptDecls_yes {w : World} {v : Value} {sl : Option Addr} {n cap : Nat} {P : Nat → Int} {T : Nat → ByteArray} (h1 : LentRow 53 2 declsX w v n (declC P T)) (h2 : RV 2 w (.slice sl n cap) n (declC P T)) (hn : n ≤ 5864062014634) :
    Calls Tryd.prog 24 #[v, .slice sl n cap] w fun e w' => e = .returned (.bool true) ∧ Kept w w' := by
  have hv := h1.rv
  obtain ⟨g, cp, cur, rfl, hc1, hc2, ho, hcur⟩ := h1
  have HS := Lib.hid (sameDecls_yes hv h2 hn)
  clear hv h2
  have hno : ¬ (n + 1 < n) := by omega
  have q0 : w.cell? ⟨g, n * 2, none⟩ = some (.int .i64 77777) := (ho.cell _).trans ((hcur n 0 (by omega) (by decide)).trans (by simp [exC, declsX]))
  have q1 : w.cell? ⟨g, n * 2 + 1, none⟩ = some (.string ⟨#[]⟩) := (ho.cell _).trans ((hcur n 1 (by omega) (by decide)).trans (by simp [exC, declsX]))
  have q2 : w.cell? ⟨g, (n + 1) * 2, none⟩ = some (.int .i64 77777) := (ho.cell _).trans ((hcur (n + 1) 0 (by omega) (by decide)).trans (by simp [exC, declsX, hno]))
  have q3 : w.cell? ⟨g, (n + 1) * 2 + 1, none⟩ = some (.string ⟨#[]⟩) := (ho.cell _).trans ((hcur (n + 1) 1 (by omega) (by decide)).trans (by simp [exC, declsX, hno]))
  have Q := Lib.hid (fun wx (hx : Kept w wx) => (And.intro ((hx.cell ho.lt).trans q0) (And.intro ((hx.cell ho.lt).trans q1) (And.intro ((hx.cell ho.lt).trans q2) ((hx.cell ho.lt).trans q3)))))
  clear hno hcur q0 q1 q2 q3
  have hn0 : (0 : Int) ≤ (n : Int) := Int.natCast_nonneg _
  have hk : Kept w w := Kept.refl w
  go_enter Tryd.func24, Tryd.ntmps24
  go_wp2_with fail
  refine (HS.out).mono ?_
  rintro e w1 ⟨rfl, hn⟩
  replace hk := hk.trans hn
  clear hn
  obtain ⟨q0, q1, q2, q3⟩ := Q.out _ hk
  go_wp2
  go_ret
  exact ⟨rfl, hk⟩
end Go.Proofs.YtnbagilcbngdcaaDoor
