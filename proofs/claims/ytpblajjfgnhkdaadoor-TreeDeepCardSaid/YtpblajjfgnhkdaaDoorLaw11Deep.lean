/- Layer 11: a row of boxes, each within the one ahead; a row of boxes in one. -/
import Derived.Test.YtpblajjfgnhkdaaDoorAwake11
import Derived.Test.YtpblajjfgnhkdaaDoorCopyNodes
import Derived.Test.YtpblajjfgnhkdaaDoorMask
namespace Go.Proofs.YtpblajjfgnhkdaaDoor
open Go.RowKit Go.Deep
set_option linter.unusedSimpArgs false
set_option linter.unusedVariables false
set_option maxRecDepth 20000
/-- each within the one ahead -/
def deepN (i : Nat) : Nd := ndL ((i : Int) - 1) 0 0 0 ⟨#[]⟩
/-- all within the first one -/
def wideN (i : Nat) : Nd := ndL (if i = 0 then -1 else 0) 0 0 0 ⟨#[]⟩
theorem deep_tree : ∀ k : Fin 16, treeB deepN (k.val + 1) = decide (k.val ≤ 6) := by decide +kernel
theorem wide_tree : ∀ k : Fin 16, treeB wideN (25 + k.val) = decide (25 + k.val ≤ 32) := by decide +kernel
theorem deep_dep : ∀ k : Fin 7, depS deepN (k.val + 1) k.val = (k.val : Int) := by decide +kernel
theorem owns_one11 (w : World) (t : TypeId) (cur : Array Value) (xs : List Value) (hs : cur.size = 6) (hx : cur.toList = xs) : (w.alloc (.cells cur t)).ownsRow w.heap.size t 6 (.slice (some ⟨w.heap.size, 0, none⟩) 1 1) 1 xs := by
  refine ⟨by rw [← hx]; simpa using hs, .inr ⟨w.heap.size, 1, cur, rfl, Nat.le_refl _, heap_alloc_new w _, Nat.le_refl _, by decide, by rw [hs], ?_⟩⟩
  rw [← hx, List.take_of_length_le (by simp; omega)]
theorem nil_nodes {w : World} {v : Value} {n : Nat} {N : Nat → Nd} (h : RV 6 w v n (nodeC N nilD)) (hN : ∀ i, (N i).m = 0 ∧ (N i).text.size = 0) : NodesV w v n N nilD :=
  ⟨h, fun i hi => ⟨.inl ⟨(hN i).1, none, 0, rfl⟩, by rw [(hN i).1]; decide, fun j hj => by rw [(hN i).1] at hj; omega, by rw [(hN i).2]; decide⟩⟩
set_option maxHeartbeats 2000000 in
theorem treeDeep_walk (many : Int) (w : World) (ht : NameT w) :
    Calls Tryd.prog 6 #[.int .i64 many] w fun e w' => e = .returned (.bool true) ∧ Kept w w' := by
  obtain ⟨i0, hi, hz0, hz1, hz2⟩ := info_parts nodesInfo
  obtain ⟨k, hq, q0, q1⟩ := masked many 4 15 (by decide) (by decide)
  obtain ⟨k, rfl⟩ := Int.eq_ofNat_of_zero_le q0
  have hk15 : k < 16 := by omega
  have HT1 := Lib.hid (deep_tree ⟨k, hk15⟩)
  have HT2 := Lib.hid (wide_tree ⟨k, hk15⟩)
  have hk : Kept w w := Kept.refl w
  go_enter Tryd.func6, Tryd.ntmps6
  go_wp2_with fail
  refine (awake11_any _ (ht.kept hk)).mono ?_
  rintro e w1 ⟨rfl, hn⟩
  replace hk := hk.trans hn
  clear hn
  obtain ⟨W0, hW0⟩ : ∃ z, z = w1 := ⟨_, rfl⟩
  rw [← hW0] at hk ⊢
  have HK0 := Lib.hid hk
  clear hW0 hk
  go_wp2
  have ho0 : OR (W0.alloc (.cells #[.int .i64 (-1), .int .i64 0, .int .i64 0, .int .i64 0, .slice none 0 0, .string ⟨#[]⟩] 43)) W0.heap.size 43 6 (.slice (some ⟨W0.heap.size, 0, none⟩) 1 1) 1 (flat 6 (nodeC deepN nilD) 1) := ⟨owns_one11 W0 _ _ _ rfl rfl⟩
  have HO0 := Lib.hid ho0
  have HA0 := Lib.hid ((Kept.refl W0).alloc (.cells #[.int .i64 (-1), .int .i64 0, .int .i64 0, .int .i64 0, .slice none 0 0, .string ⟨#[]⟩] 43))
  clear ho0
  go_loopw [4, 5] (fun v i wx => ∃ j : Nat, j ≤ k ∧ i = .int .i64 j ∧ OR wx W0.heap.size 43 6 v (j + 1) (flat 6 (nodeC deepN nilD) (j + 1)) ∧ Kept W0 wx) (fun _ i _ => k - (intOf i).toNat)
  case atStart => exact ⟨0, Nat.zero_le _, rfl, HO0.out, HA0.out⟩
  case round =>
    obtain ⟨j, hjk, rfl, ho, kX⟩ := hrel
    have hsz := kX.size
    by_cases hlt : j < k
    · have hi1 : (j : Int) < (k : Int) := by omega
      have HO := Lib.hid ho
      clear ho
      go_wp2_with (at_builtin; refine wpList_append_own _ rfl _ _ 22 rfl W0.heap.size 43 i0 (.agg #[.int .i64 0, .int .i64 0, .int .i64 0, .int .i64 0, .slice none 0 0, .string ⟨#[]⟩]) 6 72 Tryd.underlying22 hi hz0 hz1 hz2 rfl (by decide) _ _ _ rfl (HO.out.own.alloc _) ⟨wr.heap.size, 0, none⟩ 1 1 [.int .i64 (j : Int), .int .i64 0, .int .i64 0, .int .i64 0, .slice none 0 0, .string ⟨#[]⟩] rfl rfl (lit_cells wr #[.int .i64 (j : Int), .int .i64 0, .int .i64 0, .int .i64 0, .slice none 0 0, .string ⟨#[]⟩] 43) (by simp [Value.oneCell']) (by unfold maxLen; omega) (by omega) (by simp; omega) ?_; intro v2 w2 hown2 hg2 _)
      have e : flat 6 (nodeC deepN nilD) (j + 1) ++ [.int .i64 (j : Int), .int .i64 0, .int .i64 0, .int .i64 0, .slice none 0 0, .string ⟨#[]⟩] = flat 6 (nodeC deepN nilD) (j + 1 + 1) := by
        show _ = flat 6 _ (j + 1) ++ [Value.int .i64 (((j + 1 : Nat) : Int) - 1), _, _, _, _, _]
        rw [show ((j + 1 : Nat) : Int) - 1 = (j : Int) by omega]; rfl
      exact ⟨⟨j + 1, by omega, by first | rfl | go_num, ⟨by rw [← e]; exact hown2⟩, (kX.alloc _).grown hg2 (row_ge HO.out.own)⟩, by first | (simp [intOf]; done) | (simp [intOf]; omega)⟩
    · obtain rfl : j = k := by omega
      obtain ⟨o7, c7, rfl⟩ := row_len11 ho.own
      have hn1 := nil_nodes ho.rv11 (N := deepN) (fun i => ⟨rfl, rfl⟩)
      have HN1 := Lib.hid hn1
      have HKX := Lib.hid (HK0.out.trans kX)
      clear ho kX hn1 HO0 HA0
      by_cases h6 : j ≤ 6
      · have hg : treeB deepN (j + 1) = true := by rw [HT1.out]; exact decide_eq_true h6
        have hgd : goodT deepN (j + 1) (j : Int) = true := by unfold goodT; rw [hg, inB_true.2 ⟨by omega, by omega⟩]; rfl
        have CD := Lib.hid (treeDepth_is _ (j + 1) deepN nilD (j : Int) wr HN1.out (by omega) (ht.kept HKX.out) true hgd ((j : Int)) (deep_dep ⟨j, by omega⟩))
        have CM := Lib.hid (fun wx (h : Kept wr wx) => treeMay_is _ (j + 1) deepN nilD wx (HN1.out.kept h) (by omega) (ht.kept (HKX.out.trans h)) true hg)
        clear hg hgd
        obtain ⟨V, rfl⟩ : ∃ V : World, V = wr := ⟨_, rfl⟩
        go_wp2_with (first
          | (go_at_call 15; (refine CD.out.mono ?_); rintro e w3 ⟨rfl, hn3⟩; obtain ⟨W2, hW2⟩ : ∃ z, z = w3 := ⟨_, rfl⟩; rw [← hW2] at hn3 ⊢; have HN3 := Lib.hid hn3; have ho2 := (⟨owns_one11 W2 43 #[.int .i64 (-1), .int .i64 0, .int .i64 0, .int .i64 0, .slice none 0 0, .string ⟨#[]⟩] (flat 6 (nodeC wideN nilD) 1) rfl rfl⟩ : OR (W2.alloc (.cells #[.int .i64 (-1), .int .i64 0, .int .i64 0, .int .i64 0, .slice none 0 0, .string ⟨#[]⟩] 43)) W2.heap.size 43 6 (.slice (some ⟨W2.heap.size, 0, none⟩) 1 1) 1 (flat 6 (nodeC wideN nilD) 1)); have HO2 := Lib.hid ho2; have HA2 := Lib.hid ((Kept.refl W2).alloc (.cells #[.int .i64 (-1), .int .i64 0, .int .i64 0, .int .i64 0, .slice none 0 0, .string ⟨#[]⟩] 43)); clear ho2 hn3 hW2))
        go_loopw [8, 9] (fun v i wx => ∃ q : Nat, q ≤ 24 + j ∧ i = .int .i64 q ∧ OR wx W2.heap.size 43 6 v (q + 1) (flat 6 (nodeC wideN nilD) (q + 1)) ∧ Kept W2 wx) (fun _ i _ => 24 + j - (intOf i).toNat)
        case atStart => exact ⟨0, Nat.zero_le _, rfl, HO2.out, HA2.out⟩
        case round =>
          obtain ⟨q, hqk, rfl, ho, kY⟩ := hrel
          have hsz := kY.size
          by_cases hlt2 : q < 24 + j
          · have hi1 : (q : Int) < 24 + (j : Int) := by omega
            have HO := Lib.hid ho
            clear ho
            go_wp2_with (at_builtin; refine wpList_append_own _ rfl _ _ 22 rfl W2.heap.size 43 i0 (.agg #[.int .i64 0, .int .i64 0, .int .i64 0, .int .i64 0, .slice none 0 0, .string ⟨#[]⟩]) 6 72 Tryd.underlying22 hi hz0 hz1 hz2 rfl (by decide) _ _ _ rfl (HO.out.own.alloc _) ⟨wr.heap.size, 0, none⟩ 1 1 [.int .i64 0, .int .i64 0, .int .i64 0, .int .i64 0, .slice none 0 0, .string ⟨#[]⟩] rfl rfl (lit_cells wr #[.int .i64 0, .int .i64 0, .int .i64 0, .int .i64 0, .slice none 0 0, .string ⟨#[]⟩] 43) (by simp [Value.oneCell']) (by unfold maxLen; omega) (by omega) (by simp; omega) ?_; intro v2 w2 hown2 hg2 _)
            exact ⟨⟨q + 1, by omega, by first | rfl | go_num, ⟨hown2⟩, (kY.alloc _).grown hg2 (row_ge HO.out.own)⟩, by first | (simp [intOf]; done) | (simp [intOf]; omega)⟩
          · have hqe := Lib.hid (show q = 24 + j by omega)
            have hi2 : ¬ (q : Int) < 24 + (j : Int) := by omega
            obtain ⟨o8, c8, rfl⟩ := row_len11 ho.own
            have hn2 := nil_nodes ho.rv11 (N := wideN) (fun i => ⟨rfl, rfl⟩)
            have hw2 : treeB wideN (q + 1) = decide (25 + j ≤ 32) := by rw [hqe.out, show 24 + j + 1 = 25 + j by omega]; exact HT2.out
            have HKY := Lib.hid (HN3.out.trans kY)
            have HN2 := Lib.hid hn2
            clear ho hn2 kY
            have g1 : (j : Int) ≤ 6 := by omega
            have g2 : (25 : Int) + (j : Int) ≤ 32 := by omega
            have CW := Lib.hid (fun wx (h : Kept wr wx) => treeMay_is _ (q + 1) wideN nilD wx (HN2.out.kept h) (by have := hqe.out; omega) (ht.kept (HKX.out.trans (HKY.out.trans h))) true (by rw [hw2]; exact decide_eq_true (by omega)))
            clear hw2
            go_wp2_with (first
              | (go_at_call 19; (with_reducible refine (CM.out _ HKY.out).mono ?_); rintro e w5 ⟨rfl, hn5⟩)
              | (go_at_call 19; (with_reducible refine (CW.out _ hn5).mono ?_); rintro e w6 ⟨rfl, hn6⟩)
              | (go_at_call 18; (with_reducible refine (num_any _ _).mono ?_); rintro e w4 ⟨rfl, rfl⟩))
            go_ret
            exact ⟨ret_bool (by first | rfl | (simp; omega)), (HKX.out.trans (HKY.out.trans hn5)).trans hn6⟩
      · have hg : treeB deepN (j + 1) = false := by rw [HT1.out]; exact decide_eq_false h6
        have hgd : goodT deepN (j + 1) (j : Int) = false := by unfold goodT; rw [hg]; rfl
        have CD := Lib.hid (treeDepth_is _ (j + 1) deepN nilD (j : Int) wr HN1.out (by omega) (ht.kept HKX.out) false hgd (_) rfl)
        have CM := Lib.hid (fun wx (h : Kept wr wx) => treeMay_is _ (j + 1) deepN nilD wx (HN1.out.kept h) (by omega) (ht.kept (HKX.out.trans h)) false hg)
        clear hg hgd
        obtain ⟨V, rfl⟩ : ∃ V : World, V = wr := ⟨_, rfl⟩
        go_wp2_with (first
          | (go_at_call 15; (refine CD.out.mono ?_); rintro e w3 ⟨rfl, hn3⟩; obtain ⟨W2, hW2⟩ : ∃ z, z = w3 := ⟨_, rfl⟩; rw [← hW2] at hn3 ⊢; have HN3 := Lib.hid hn3; have ho2 := (⟨owns_one11 W2 43 #[.int .i64 (-1), .int .i64 0, .int .i64 0, .int .i64 0, .slice none 0 0, .string ⟨#[]⟩] (flat 6 (nodeC wideN nilD) 1) rfl rfl⟩ : OR (W2.alloc (.cells #[.int .i64 (-1), .int .i64 0, .int .i64 0, .int .i64 0, .slice none 0 0, .string ⟨#[]⟩] 43)) W2.heap.size 43 6 (.slice (some ⟨W2.heap.size, 0, none⟩) 1 1) 1 (flat 6 (nodeC wideN nilD) 1)); have HO2 := Lib.hid ho2; have HA2 := Lib.hid ((Kept.refl W2).alloc (.cells #[.int .i64 (-1), .int .i64 0, .int .i64 0, .int .i64 0, .slice none 0 0, .string ⟨#[]⟩] 43)); clear ho2 hn3 hW2))
        go_loopw [8, 9] (fun v i wx => ∃ q : Nat, q ≤ 24 + j ∧ i = .int .i64 q ∧ OR wx W2.heap.size 43 6 v (q + 1) (flat 6 (nodeC wideN nilD) (q + 1)) ∧ Kept W2 wx) (fun _ i _ => 24 + j - (intOf i).toNat)
        case atStart => exact ⟨0, Nat.zero_le _, rfl, HO2.out, HA2.out⟩
        case round =>
          obtain ⟨q, hqk, rfl, ho, kY⟩ := hrel
          have hsz := kY.size
          by_cases hlt2 : q < 24 + j
          · have hi1 : (q : Int) < 24 + (j : Int) := by omega
            have HO := Lib.hid ho
            clear ho
            go_wp2_with (at_builtin; refine wpList_append_own _ rfl _ _ 22 rfl W2.heap.size 43 i0 (.agg #[.int .i64 0, .int .i64 0, .int .i64 0, .int .i64 0, .slice none 0 0, .string ⟨#[]⟩]) 6 72 Tryd.underlying22 hi hz0 hz1 hz2 rfl (by decide) _ _ _ rfl (HO.out.own.alloc _) ⟨wr.heap.size, 0, none⟩ 1 1 [.int .i64 0, .int .i64 0, .int .i64 0, .int .i64 0, .slice none 0 0, .string ⟨#[]⟩] rfl rfl (lit_cells wr #[.int .i64 0, .int .i64 0, .int .i64 0, .int .i64 0, .slice none 0 0, .string ⟨#[]⟩] 43) (by simp [Value.oneCell']) (by unfold maxLen; omega) (by omega) (by simp; omega) ?_; intro v2 w2 hown2 hg2 _)
            exact ⟨⟨q + 1, by omega, by first | rfl | go_num, ⟨hown2⟩, (kY.alloc _).grown hg2 (row_ge HO.out.own)⟩, by first | (simp [intOf]; done) | (simp [intOf]; omega)⟩
          · have hqe := Lib.hid (show q = 24 + j by omega)
            have hi2 : ¬ (q : Int) < 24 + (j : Int) := by omega
            obtain ⟨o8, c8, rfl⟩ := row_len11 ho.own
            have hn2 := nil_nodes ho.rv11 (N := wideN) (fun i => ⟨rfl, rfl⟩)
            have hw2 : treeB wideN (q + 1) = decide (25 + j ≤ 32) := by rw [hqe.out, show 24 + j + 1 = 25 + j by omega]; exact HT2.out
            have HKY := Lib.hid (HN3.out.trans kY)
            have HN2 := Lib.hid hn2
            clear ho hn2 kY
            by_cases h7 : 25 + j ≤ 32
            · have g1 : ¬ (j : Int) ≤ 6 := by omega
              have g2 : (25 : Int) + (j : Int) ≤ 32 := by omega
              have CW := Lib.hid (fun wx (h : Kept wr wx) => treeMay_is _ (q + 1) wideN nilD wx (HN2.out.kept h) (by have := hqe.out; omega) (ht.kept (HKX.out.trans (HKY.out.trans h))) true (by rw [hw2]; exact decide_eq_true (by omega)))
              clear hw2
              go_wp2_with (first
                | (go_at_call 19; (with_reducible refine (CM.out _ HKY.out).mono ?_); rintro e w5 ⟨rfl, hn5⟩)
                | (go_at_call 19; (with_reducible refine (CW.out _ hn5).mono ?_); rintro e w6 ⟨rfl, hn6⟩)
                | (go_at_call 18; (with_reducible refine (num_any _ _).mono ?_); rintro e w4 ⟨rfl, rfl⟩))
              go_ret
              exact ⟨ret_bool (by first | rfl | (simp; omega)), (HKX.out.trans (HKY.out.trans hn5)).trans hn6⟩
            · have g1 : ¬ (j : Int) ≤ 6 := by omega
              have g2 : ¬ (25 : Int) + (j : Int) ≤ 32 := by omega
              have CW := Lib.hid (fun wx (h : Kept wr wx) => treeMay_is _ (q + 1) wideN nilD wx (HN2.out.kept h) (by have := hqe.out; omega) (ht.kept (HKX.out.trans (HKY.out.trans h))) false (by rw [hw2]; exact decide_eq_false (by omega)))
              clear hw2
              go_wp2_with (first
                | (go_at_call 19; (with_reducible refine (CM.out _ HKY.out).mono ?_); rintro e w5 ⟨rfl, hn5⟩)
                | (go_at_call 19; (with_reducible refine (CW.out _ hn5).mono ?_); rintro e w6 ⟨rfl, hn6⟩)
                | (go_at_call 18; (with_reducible refine (num_any _ _).mono ?_); rintro e w4 ⟨rfl, rfl⟩))
              go_ret
              exact ⟨ret_bool (by first | rfl | (simp; omega)), (HKX.out.trans (HKY.out.trans hn5)).trans hn6⟩
end Go.Proofs.YtpblajjfgnhkdaaDoor
