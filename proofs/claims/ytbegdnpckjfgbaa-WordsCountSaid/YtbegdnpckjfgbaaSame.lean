/- Words and lines compared, written over. -/
import Derived.Test.YtbegdnpckjfgbaaLend
namespace Go.Proofs.Ytbegdnpckjfgbaa
open Go.RowKit
set_option linter.unusedSimpArgs false
set_option linter.unusedVariables false
theorem sameWords_none (o1 o2 : Option Addr) (c1 c2 : Nat) (w : World) :
    Calls Try.prog 18 #[.slice o1 0 c1, .slice o2 0 c2] w fun e w' => e = .returned (.bool true) ∧ Kept w w' := by
  go_enter Try.func18, Try.ntmps18
  go_wp2
  refine wp_loop_rounds 1 ?_
  rw [rounds_succ]
  go_wp2
  go_ret
  exact ⟨rfl, Kept.refl _⟩
set_option maxHeartbeats 1000000 in
theorem sameWords_some (b1 o1 c1 b2 o2 c2 n : Nat) (S : Nat → ByteArray) (A G : Nat → Int) (w : World) (h1 : WordsAt w b1 o1 n S A G) (h2 : WordsAt w b2 o2 n S A G) (hn : n ≤ 4398046510976) :
    Calls Try.prog 18 #[.slice (some ⟨b1, o1, none⟩) n c1, .slice (some ⟨b2, o2, none⟩) n c2] w fun e w' => e = .returned (.bool true) ∧ Kept w w' := by
  go_enter Try.func18, Try.ntmps18
  go_wp2
  go_loopw [5] (fun i wx => ∃ k : Nat, k ≤ n ∧ i = .int .i64 k ∧ Kept w wx) (fun i _ => n - (intOf i).toNat)
  case atStart => exact ⟨0, Nat.zero_le _, rfl, Kept.refl _⟩
  case round =>
    obtain ⟨k, hk4, rfl, hk⟩ := hrel
    by_cases hlt : k < n
    · have x0 := (h1.kept hk).text k hlt
      have x1 := (h1.kept hk).adv k hlt
      have x2 := (h1.kept hk).gap k hlt
      have y0 := (h2.kept hk).text k hlt
      have y1 := (h2.kept hk).adv k hlt
      have y2 := (h2.kept hk).gap k hlt
      generalize S k = s at *
      generalize A k = a at *
      generalize G k = g at *
      have hi0 : (0 : Int) ≤ (k : Int) := Int.natCast_nonneg _
      have hi1 : (k : Int) < (n : Int) := by omega
      go_wp2
      go_quiet (fail)
      go_wp2
      go_roundw
      case rel => exact ⟨k + 1, by omega, by go_num, (by first | ((repeat (first | with_reducible exact hk | with_reducible refine Kept.alloc ?_ _ | with_reducible refine Kept.drew ?_ | with_reducible refine Kept.drewN ?_ _ | with_reducible refine Kept.set ?_ (by first | (simp; done) | (simp; omega) | omega) _)); done) | exact hk | exact (hk.alloc _) | exact ((hk.alloc _).alloc _) | exact (((hk.alloc _).alloc _).alloc _) | exact ((((hk.alloc _).alloc _).alloc _).alloc _) | exact (((((hk.alloc _).alloc _).alloc _).alloc _).alloc _) | exact ((((((hk.alloc _).alloc _).alloc _).alloc _).alloc _).alloc _) | (repeat (first | exact hk | refine Kept.alloc ?_ _ | refine Kept.drew ?_ | refine Kept.drewN ?_ _ | refine Kept.set ?_ (by first | (simp; done) | (simp; omega) | omega) _)))⟩
      case measure => simp [intOf]; omega
    · go_wp2
      go_ret
      exact ⟨rfl, hk⟩
theorem sameWords_yes {w : World} {v1 v2 : Value} {n : Nat} {S : Nat → ByteArray} {A G : Nat → Int} (h1 : WV w v1 n S A G) (h2 : WV w v2 n S A G) (hn : n ≤ 4398046510976) :
    Calls Try.prog 18 #[v1, v2] w fun e w' => e = .returned (.bool true) ∧ Kept w w' := by
  rcases h1 with ⟨rfl, o, c, rfl⟩ | ⟨b, o, c, rfl, hp, _, g1⟩ <;> rcases h2 with ⟨h0, o2, c2, rfl⟩ | ⟨b2, o2, c2, rfl, hp2, _, g2⟩
  · exact sameWords_none _ _ _ _ w
  · omega
  · omega
  · exact sameWords_some _ _ _ _ _ _ n S A G w g1 g2 hn
set_option maxHeartbeats 1000000 in
theorem keptWords_yes {a w : World} {v : Value} {sl : Option Addr} {n cap : Nat} {S : Nat → ByteArray} {A G : Nat → Int} (h1 : Lent a w v n S A G) (h2 : WV w (.slice sl n cap) n S A G) (hn : n ≤ 4398046510976) :
    Calls Try.prog 25 #[v, .slice sl n cap] w fun e w' => e = .returned (.bool true) ∧ Kept w w' := by
  have hv := h1.wv
  obtain ⟨g, cp, cur, rfl, hc1, hc2, hge, ho, hcur⟩ := h1
  have HS := Lib.hid (sameWords_yes hv h2 hn)
  clear hv h2
  have hno : ¬ (n + 1 < n) := by omega
  obtain ⟨e0, e1, e2⟩ := hcur n (by omega)
  obtain ⟨e3, e4, e5⟩ := hcur (n + 1) (by omega)
  have q0 : w.cell? ⟨g, n * 3, none⟩ = some (.string ByteArray.empty) := (ho.cell _).trans (e0.trans (by simp [vs, exS]))
  have q1 : w.cell? ⟨g, n * 3 + 1, none⟩ = some (.int .i64 77777) := (ho.cell _).trans (e1.trans (by simp [vi, exA]))
  have q2 : w.cell? ⟨g, n * 3 + 2, none⟩ = some (.int .i64 0) := (ho.cell _).trans (e2.trans (by simp [vi, exG]))
  have q3 : w.cell? ⟨g, (n + 1) * 3, none⟩ = some (.string ByteArray.empty) := (ho.cell _).trans (e3.trans (by simp [vs, exS, hno]))
  have q4 : w.cell? ⟨g, (n + 1) * 3 + 1, none⟩ = some (.int .i64 77777) := (ho.cell _).trans (e4.trans (by simp [vi, exA, hno]))
  have q5 : w.cell? ⟨g, (n + 1) * 3 + 2, none⟩ = some (.int .i64 0) := (ho.cell _).trans (e5.trans (by simp [vi, exG, hno]))
  have Q := Lib.hid (fun wx (hx : Kept w wx) => And.intro ((hx.cell ho.lt).trans q0) (And.intro ((hx.cell ho.lt).trans q1) (And.intro ((hx.cell ho.lt).trans q2) (And.intro ((hx.cell ho.lt).trans q3) (And.intro ((hx.cell ho.lt).trans q4) ((hx.cell ho.lt).trans q5))))))
  clear hno q0 q1 q2 q3 q4 q5 e0 e1 e2 e3 e4 e5 hcur
  have hn0 : (0 : Int) ≤ (n : Int) := Int.natCast_nonneg _
  have hk : Kept w w := Kept.refl w
  go_enter Try.func25, Try.ntmps25
  go_wp2_with fail
  refine (HS.out).mono ?_
  rintro e w1 ⟨rfl, hn⟩
  replace hk := hk.trans hn
  clear hn
  obtain ⟨q0, q1, q2, q3, q4, q5⟩ := Q.out _ hk
  go_wp2
  go_ret
  exact ⟨rfl, hk⟩
/-- the middle cell of each of three -/
def Mid (cur : Array Value) (k m : Nat) : Prop := ∀ i, k ≤ i → i < m → ∃ x : Int, cur[i * 3 + 1]? = some (.int .i64 x)
theorem Mid.set {cur : Array Value} {k m : Nat} (h : Mid cur k m) (v : Value) : Mid (cur.setIfInBounds (k * 3 + 1) v) (k + 1) m := by
  intro i hi hm
  obtain ⟨x, hx⟩ := h i (by omega) hm
  exact ⟨x, by rw [Array.getElem?_setIfInBounds_ne (by omega)]; exact hx⟩
theorem spoilWords_none (o : Option Addr) (cap : Nat) (w : World) :
    Calls Try.prog 24 #[.slice o 0 cap] w fun e w' => e = .returned (.tuple #[]) ∧ Kept w w' := by
  go_enter Try.func24, Try.ntmps24
  go_wp2
  refine wp_loop_rounds 1 ?_
  rw [rounds_succ]
  go_wp2
  go_end0
  exact ⟨rfl, Kept.refl _⟩
set_option maxHeartbeats 1000000 in
theorem spoilWords_some (a : World) (g m cap : Nat) (cur0 : Array Value) (w : World) (ha : Kept a w) (hg : a.heap.size ≤ g) (hm : m ≤ 4398046510976) (h1 : Own w g 36 cur0) (h2 : Mid cur0 0 m) :
    Calls Try.prog 24 #[.slice (some ⟨g, 0, none⟩) m cap] w fun e w' => e = .returned (.tuple #[]) ∧ Kept a w' := by
  go_enter Try.func24, Try.ntmps24
  go_wp2
  go_loopw [2] (fun n wx => ∃ (k : Nat) (cur : Array Value), k ≤ m ∧ n = .int .i64 k ∧ Kept a wx ∧ Own wx g 36 cur ∧ Mid cur k m) (fun n _ => m - (intOf n).toNat)
  case atStart => exact ⟨0, cur0, Nat.zero_le _, rfl, ha, h1, h2⟩
  case round =>
    clear ha h1 h2
    obtain ⟨k, cur, hkm, rfl, hk, ho, hmid⟩ := hrel
    by_cases hlt : k < m
    · obtain ⟨x, hx⟩ := hmid k (Nat.le_refl _) hlt
      have c1 : wr.cell? ⟨g, k * 3 + 1, none⟩ = some (.int .i64 x) := (ho.cell _).trans hx
      have f1 := ho.free (k * 3 + 1)
      have H := Lib.hid (And.intro ho hmid)
      clear ho hmid hx
      go_wp2
      go_roundw
      case rel => exact ⟨k + 1, _, by omega, by go_num, hk.set hg _, H.out.1.set (k * 3 + 1) _, H.out.2.set _⟩
      case measure => simp [intOf]; omega
    · go_wp2
      go_end0
      exact ⟨rfl, hk⟩
theorem spoilWords_any {a w : World} {v : Value} {m : Nat} {f h : Nat → Value} {A : Nat → Int} (ha : Kept a w) (hm : m ≤ 4398046510976) (hv : NewThree 36 a w v m f (vi A) h) :
    Calls Try.prog 24 #[v] w fun e w' => e = .returned (.tuple #[]) ∧ Kept a w' := by
  rcases hv with ⟨rfl, o, cap, rfl, _⟩ | ⟨b, cap, cur, rfl, h2, h3, h4, h5, h6, h7, h8⟩
  · exact (spoilWords_none o cap w).mono fun e w' h => ⟨h.1, ha.trans h.2⟩
  · exact spoilWords_some a b m cap cur w ha h5 hm h6 fun i _ hi => ⟨A i, (h8 i hi).2.1⟩
end Go.Proofs.Ytbegdnpckjfgbaa
