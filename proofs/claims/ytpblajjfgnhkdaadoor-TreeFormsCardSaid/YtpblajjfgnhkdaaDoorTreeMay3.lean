/- Layer 11: are nodes a tree? any; a node's kids, its depth, by the program. -/
import Derived.Test.YtpblajjfgnhkdaaDoorTreeMay2
import Derived.Test.YtpblajjfgnhkdaaDoorOnes
namespace Go.Proofs.YtpblajjfgnhkdaaDoor
open Go.RowKit
set_option linter.unusedSimpArgs false
set_option linter.unusedVariables false
set_option maxHeartbeats 2000000
theorem treeMay_any (v : Value) (n : Nat) (N : Nat → Nd) (D : Nat → Value) (w : World) (hv : NodesV w v n N D) (hn : n ≤ 4611686018427387904) (ht : NameT w) :
    Calls Tryd.prog 19 #[v] w fun e w' => e = .returned (.bool (treeB N n)) ∧ Kept w w' := by
  obtain ⟨sl, cap, rfl⟩ := hv.row.shape
  by_cases h0 : n = 0
  · subst h0
    have Hs := Lib.hid (show treeB N 0 = false from rfl)
    clear hv
    go_enter Tryd.func19, Tryd.ntmps19
    go_wp2
    go_ret
    exact ⟨ret_bool (by rw [Hs.out]), Kept.refl _⟩
  · by_cases h1 : n ≤ 32
    · obtain ⟨b, off, rfl, hle, hr⟩ := hv.row.row (by omega)
      exact treeMay_main b off n cap N D w hv hr (by omega) h1 ht
    · have Hs := Lib.hid (show treeB N n = false by
        cases h : treeB N n with
        | false => rfl
        | true => have := (treeB_true.1 h).1; omega)
      clear hv
      have hi1 : ¬ (n : Int) < 1 := by omega
      have hi2 : (32 : Int) < (n : Int) := by omega
      go_enter Tryd.func19, Tryd.ntmps19
      go_wp2
      go_ret
      exact ⟨ret_bool (by rw [Hs.out]), Kept.refl _⟩
theorem treeMay_is (v : Value) (n : Nat) (N : Nat → Nd) (D : Nat → Value) (w : World) (hv : NodesV w v n N D) (hn : n ≤ 4611686018427387904) (ht : NameT w) (b : Bool) (hb : treeB N n = b) :
    Calls Tryd.prog 19 #[v] w fun e w' => e = .returned (.bool b) ∧ Kept w w' := by
  subst hb
  exact treeMay_any v n N D w hv hn ht
theorem ones_congr {Z Y : Nat → Int} : ∀ {m : Nat}, (∀ j, j < m → Z j = Y j) → ones Z m = ones Y m := by
  intro m
  induction m with
  | zero => intro _; rfl
  | succ m ih => intro h; unfold ones; rw [ih fun j hj => h j (by omega), h m (by omega)]
theorem lit_next (w : World) (c : Obj) (v : Value) (t : TypeId) : ∀ j u, ([v] : List Value)[j]? = some u → ((w.alloc c).alloc (.cells #[v] t)).cell? ((⟨w.heap.size + 1, 0, none⟩ : Addr).add j) = some u := by
  have := lit_cells (w.alloc c) #[v] t
  rwa [show (w.alloc c).heap.size = w.heap.size + 1 by simp] at this

set_option maxRecDepth 20000 in
theorem nodeKids_any (b off n cap : Nat) (N : Nat → Nd) (D : Nat → Value) (a : Int) (w : World) (hr : RowAt w b off 6 n (nodeC N D)) (hd : ∀ i, i < n → ∃ o c, D i = .slice o (N i).m c) (hn : n ≤ 32) :
    Calls Tryd.prog 30 #[.slice (some ⟨b, off, none⟩) n cap, .int .i64 a] w fun e w' => ∃ u, e = .returned u ∧ NewOnes 3 w w' u (kidN N a n) (kidZ N a n) ∧ Kept w w' := by
  obtain ⟨i0, hi, hz0, hz1, hz2⟩ := info_parts intInfo1
  have HR := Lib.hid hr
  have HD := Lib.hid hd
  clear hr hd
  go_enter Tryd.func30, Tryd.ntmps30
  go_wp2
  go_loopw [5, 6, 7, 10] (fun v _ _ i wx => ∃ k : Nat, k ≤ n ∧ i = .int .i64 k ∧ OR wx w.heap.size 3 1 v (kidN N a k) (ones (kidZ N a k) (kidN N a k)) ∧ Kept w wx) (fun _ _ _ i _ => n - (intOf i).toNat)
  case atStart => exact ⟨0, Nat.zero_le _, rfl, ⟨World.ownsRow_nil _ _ _ _⟩, Kept.refl _⟩
  case round =>
    obtain ⟨k, hkn, rfl, ho, hk⟩ := hrel
    by_cases hlt : k < n
    · have hi1 : (k : Int) < (n : Int) := by omega
      obtain ⟨c0, c1, c2, c3, c4, c5⟩ := node_cells (HR.out.kept hk) hlt
      obtain ⟨o2, cap2, hD⟩ := HD.out k hlt
      rw [hD] at c4
      have hle := hk.size
      have hkl := kidN_le N a k
      have HO := Lib.hid ho
      have e1 := Lib.hid (show kidN N a (k + 1) = kidN N a k + if (N k).parent = a then 1 else 0 from rfl)
      have e2 := Lib.hid (fun h => kidZ_new (N := N) (a := a) (k := k) h)
      have e3 := Lib.hid (fun j (h : j < kidN N a k) => kidZ_step N a k j h)
      have e4 := Lib.hid (show ones (kidZ N a (k + 1)) (kidN N a k) = ones (kidZ N a k) (kidN N a k) from ones_congr fun j hj => kidZ_step N a k j hj)
      clear ho hD
      obtain ⟨m, hm⟩ : ∃ m, kidN N a k = m := ⟨_, rfl⟩
      rw [hm] at e1 e2 e4 HO hkl
      clear hm e3
      generalize N k = y at *
      by_cases hp : y.parent = a
      · have HF : kidN N a (k + 1) = m + 1 := by rw [e1.out, if_pos hp]
        have HFL := Lib.hid (show ones (kidZ N a k) m ++ [.int .i64 (k : Int)] = ones (kidZ N a (k + 1)) (m + 1) by rw [← e4.out, ← e2.out hp]; rfl)
        have HF1 := Lib.hid HF
        clear HF e2 e4 e1
        subst hp
        go_wp2_with (at_builtin; refine wpList_append_own _ rfl _ _ 24 rfl w.heap.size 3 i0 (.int .i64 0) 1 8 Tryd.underlying24 hi hz0 hz1 hz2 rfl (by decide) _ _ _ rfl ((HO.out.own.alloc _).alloc _) ⟨wr.heap.size + 1, 0, none⟩ 1 1 [.int .i64 (k : Int)] rfl rfl (lit_next _ _ _ _) (by simp [Value.oneCell']) (by unfold maxLen; omega) (by omega) (by simp; omega) ?_; intro v2 w2 hown2 hg2 _)
        exact ⟨⟨k + 1, by omega, by first | rfl | go_num, by rw [HF1.out]; exact ⟨by rw [← HFL.out]; exact hown2⟩, ((hk.alloc _).alloc _).grown hg2 (row_ge HO.out.own)⟩, by first | (simp [intOf]; done) | (simp [intOf]; omega)⟩
      · have HF1 := Lib.hid (show kidN N a (k + 1) = m by rw [e1.out, if_neg hp]; rfl)
        clear e2 e1
        go_wp2
        exact ⟨⟨k + 1, by omega, by first | rfl | go_num, by rw [HF1.out, e4.out]; exact HO.out.kept ((Kept.refl _).alloc _), hk.alloc _⟩, by first | (simp [intOf]; done) | (simp [intOf]; omega)⟩
    · obtain rfl : k = n := by omega
      go_wp2
      go_ret
      exact ⟨_, rfl, newOnes_of ho.own, hk⟩
end Go.Proofs.YtpblajjfgnhkdaaDoor
