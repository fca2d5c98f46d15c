/- Numbers lent, compared, kept. -/
import Derived.Test.YtpblajjfgnhkdaaDoorOnes
import Derived.Deep.AppendSrc
import Derived.Deep.QuietTactic
import Derived.BigQuiet
namespace Go.Proofs.YtpblajjfgnhkdaaDoor
open Go.RowKit
set_option linter.unusedSimpArgs false
set_option linter.unusedVariables false
theorem ints_cells {w : World} {b off n : Nat} {Z : Nat → Int} (h : IntsAt w b off n Z) : ∀ j u, (ones Z n)[j]? = some u → w.cell? ((⟨b, off, none⟩ : Addr).add j) = some u := by
  intro j u hu
  have hj : j < n := by have := (List.getElem?_eq_some_iff.1 hu).1; rwa [ones_length] at this
  rw [plain_add1, h j hj, ← ones_at Z n j hj, hu]
theorem wpList_append_emptyI {P : Program} (w : World) {ops : Array Oper} {rest : List Oper} {o : Oper} {a : Act} {Q : Exit → Act → World → Prop} (hgd : o.guard = none) (s x : Operand) (t : TypeId)
    (ho : o.op = .call { callee := .builtin .append, args := #[s, x], argTypes := #[t, t] }) (e : TypeId) (i : TypeInfo) (ht : P.underlying t = some (.slice e)) (hi : P.info? e = some i)
    (g sc c : Nat) (hs : a.eval s = .slice (some ⟨g, 0, none⟩) 0 sc) (hx : a.eval x = .slice none 0 c)
    (h : wpList P ops Q rest (a.put o.dst (.slice (some ⟨g, 0, none⟩) 0 sc)) w) : wpList P ops Q (o :: rest) a w := by
  refine wpList_plain hgd fun K hK => ?_
  have hr := run_append_room_src (P := P) w t t o.type e i ht hi g 0 0 sc (.slice none 0 c) 0 [] (Src.ofNil w ht c) (Nat.zero_le _) (fun j hj => by simp at hj) (fun j hj => by simp at hj)
  unfold Oper.wp execOp
  simp only [ho, resolve, invoke, builtin, Sem.run_bind, Sem.run_pure, Result.andThen_ok, List.map_toArray, List.map_cons, List.map_nil, hs, hx, hr]
  exact hK _ _ h
def exI (Z : Nat → Int) (n i : Nat) : Int := if i < n then Z i else if i = n then -7777 else -8888
theorem ones_congr {a b : Nat → Int} : ∀ m, (∀ i, i < m → a i = b i) → ones a m = ones b m := by
  intro m
  induction m with
  | zero => exact fun _ => rfl
  | succ m ih => intro h; unfold ones; rw [ih fun i hi => h i (by omega), h m (by omega)]
theorem ones_lent (Z : Nat → Int) (n : Nat) : ones Z n ++ [.int .i64 (-7777), .int .i64 (-8888)] = ones (exI Z n) (n + 2) := by
  have h1 : ones Z n = ones (exI Z n) n := ones_congr n fun i hi => by simp [exI, hi]
  show _ = ones (exI Z n) n ++ [_] ++ [_]
  rw [h1, List.append_assoc]
  have hn : ¬ (n + 1 < n) := by omega
  simp [exI, hn]
/-- numbers that are lent -/
def LentI (w : World) (v : Value) (n : Nat) (Z : Nat → Int) : Prop :=
  ∃ g cap cur, v = .slice (some ⟨g, 0, none⟩) n cap ∧ n + 2 ≤ cap ∧ cap ≤ maxLen ∧ Own w g 3 cur ∧ ∀ i, i < n + 2 → cur[i]? = some (.int .i64 (exI Z n i))
theorem LentI.kept {w w' : World} {v : Value} {n : Nat} {Z : Nat → Int} (h : LentI w v n Z) (k : Kept w w') : LentI w' v n Z := by
  obtain ⟨g, cap, cur, h1, h2, h3, h5, h6⟩ := h
  exact ⟨g, cap, cur, h1, h2, h3, h5.kept k, h6⟩
theorem LentI.iv {w : World} {v : Value} {n : Nat} {Z : Nat → Int} (h : LentI w v n Z) : IV w v n Z := by
  obtain ⟨g, cap, cur, rfl, h2, h3, h5, h6⟩ := h
  rcases Nat.eq_zero_or_pos n with rfl | hp
  · exact .inl ⟨rfl, _, _, rfl⟩
  · exact iv_of h5 hp (by omega) fun i hi => by rw [h6 i (by omega)]; simp [exI, hi]
theorem lendI_more {a w : World} {v : Value} {n : Nat} {xs : List Value} (h : w.ownsRow a.heap.size 3 1 v (n + 2) xs) : ∃ g cap, v = .slice (some ⟨g, 0, none⟩) (n + 2) cap ∧ n + 2 ≤ cap := by
  rcases h.2 with ⟨_, h0⟩ | ⟨g, cap, cur, hv, hge, hh, hm, _⟩
  · omega
  · exact ⟨g, cap, hv, hm⟩
theorem sameIV_none (o1 o2 : Option Addr) (c1 c2 : Nat) (w : World) :
    Calls Tryd.prog 17 #[.slice o1 0 c1, .slice o2 0 c2] w fun e w' => e = .returned (.bool true) ∧ Kept w w' := by
  go_enter Tryd.func17, Tryd.ntmps17
  go_wp2
  refine wp_loop_rounds 1 ?_
  rw [rounds_succ]
  go_wp2
  go_ret
  exact ⟨rfl, Kept.refl _⟩
set_option maxHeartbeats 1000000 in
theorem sameIV_some (b1 o1 c1 b2 o2 c2 n : Nat) (Z : Nat → Int) (w : World) (h1 : IntsAt w b1 o1 n Z) (h2 : IntsAt w b2 o2 n Z) (hn : n ≤ 17592186043904) :
    Calls Tryd.prog 17 #[.slice (some ⟨b1, o1, none⟩) n c1, .slice (some ⟨b2, o2, none⟩) n c2] w fun e w' => e = .returned (.bool true) ∧ Kept w w' := by
  go_enter Tryd.func17, Tryd.ntmps17
  go_wp2
  go_loopw [5] (fun i wx => ∃ k : Nat, k ≤ n ∧ i = .int .i64 k ∧ Kept w wx) (fun i _ => n - (intOf i).toNat)
  case atStart => exact ⟨0, Nat.zero_le _, rfl, Kept.refl _⟩
  case round =>
    obtain ⟨k, hk4, rfl, hk⟩ := hrel
    by_cases hlt : k < n
    · have x0 := (h1.kept hk) k hlt
      have y0 := (h2.kept hk) k hlt
      generalize Z k = s at *
      have hi0 : (0 : Int) ≤ (k : Int) := Int.natCast_nonneg _
      have hi1 : (k : Int) < (n : Int) := by omega
      go_wp2
      go_quiet (fail)
      go_wp2
      go_roundw
      case rel => exact ⟨k + 1, by omega, by go_num, (by first | ((repeat (first | with_reducible exact hk | with_reducible refine Kept.alloc ?_ _ | with_reducible refine Kept.drew ?_ | with_reducible refine Kept.drewN ?_ _ | with_reducible refine Kept.set ?_ (by first | (simp; done) | (simp; omega) | omega) _)); done) | exact hk | exact (hk.alloc _) | exact ((hk.alloc _).alloc _) | exact (((hk.alloc _).alloc _).alloc _) | exact ((((hk.alloc _).alloc _).alloc _).alloc _) | exact (((((hk.alloc _).alloc _).alloc _).alloc _).alloc _) | exact ((((((hk.alloc _).alloc _).alloc _).alloc _).alloc _).alloc _) | (repeat (first | exact hk | refine Kept.alloc ?_ _ | refine Kept.drew ?_ | refine Kept.drewN ?_ _ | refine Kept.set ?_ (by first | (simp; done) | (simp; omega) | omega) _)))⟩
      case measure => simp [intOf]; omega
    · go_wp2
      go_ret
      exact ⟨rfl, hk⟩
theorem sameIV_yes {w : World} {v1 v2 : Value} {n : Nat} {Z : Nat → Int} (h1 : IV w v1 n Z) (h2 : IV w v2 n Z) (hn : n ≤ 17592186043904) :
    Calls Tryd.prog 17 #[v1, v2] w fun e w' => e = .returned (.bool true) ∧ Kept w w' := by
  rcases h1 with ⟨rfl, o, c, rfl⟩ | ⟨b, o, c, rfl, hp, _, g1⟩ <;> rcases h2 with ⟨h0, o2, c2, rfl⟩ | ⟨b2, o2, c2, rfl, hp2, _, g2⟩
  · exact sameIV_none _ _ _ _ w
  · omega
  · omega
  · exact sameIV_some _ _ _ _ _ _ n Z w g1 g2 hn
end Go.Proofs.YtpblajjfgnhkdaaDoor
