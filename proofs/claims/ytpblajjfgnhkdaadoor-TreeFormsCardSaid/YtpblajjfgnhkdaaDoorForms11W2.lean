/- Layer 11: trees that may not be: one number is another. -/
import Derived.Test.YtpblajjfgnhkdaaDoorForms11B
import Derived.Test.YtpblajjfgnhkdaaDoorMask
namespace Go.Proofs.YtpblajjfgnhkdaaDoor
open Go.RowKit Go.Deep
set_option linter.unusedSimpArgs false
set_option linter.unusedVariables false
set_option maxRecDepth 20000
set_option maxHeartbeats 2000000 in
theorem treeForms_6 (which x q : Int) (hr : (IntKind.u64.wrap which).tmod 20 = 6) (hq : bits .and .i64 x 1023 = q) (q0 : 0 ≤ q) (q1 : q ≤ 1023) (w : World) (ht : NameT w) :
    Calls Tryd.prog 5 #[.int .i64 which, .int .i64 x] w fun e w' => e = .returned (.bool true) ∧ Kept w w' := by
  have hk : Kept w w := Kept.refl w
  go_enter Tryd.func5, Tryd.ntmps5
  go_wp2_with fail
  refine (awake11_any _ (ht.kept hk)).mono ?_
  rintro e w1 ⟨rfl, hn⟩
  replace hk := hk.trans hn
  clear hn
  go_wp2_with fail
  refine with_boxes1 ?_
  intro X hX a
  have hsz := hk.size
  replace hk := hk.trans hX
  clear hX
  have ha : NodesV X _ 4 (ndsL g11) nilD := nodes_lit a (by decide) g11 rfl (fun i hi => by
    rcases (by omega : i = 0 ∨ i = 1 ∨ i = 2 ∨ i = 3) with rfl | rfl | rfl | rfl <;> exact ⟨rfl, by decide⟩)
  clear a
  refine (copyNodes_main _ 4 4 (ndsL g11) nilD _ ha (by decide)).mono ?_
  rintro e w2 ⟨v, D, rfl, ho, hn⟩
  obtain ⟨gb, cap, cur, rfl, hgb, hown, hcur, hv⟩ := chg_view ho 3 0 (1) (by decide) (by decide)
  have c0 : w2.cell? ⟨gb, 18, none⟩ = some (.int .i64 (2)) := (hown.cell 18).trans (hcur 3 0 (by decide) (by decide))
  have cf := hown.free 18
  have cl := hown.lt
  have hk2 := hk.trans hn
  have hkS : Kept w (w2.setCell ⟨gb, 18, none⟩ (.int .i64 (1))) := hk2.set (Nat.le_trans hk.size hgb) _
  have hvg : NodesV (w2.setCell ⟨gb, 18, none⟩ (.int .i64 (1))) _ 4 (ndsL g11) nilD := ha.kept (hn.set hgb _)
  have hvb : NodesV (w2.setCell ⟨gb, 18, none⟩ (.int .i64 (1))) (.slice (some ⟨gb, 0, none⟩) 4 cap) 4 (chgN (ndsL g11) 3 (ndF (ndsL g11 3) 0 (1))) D := hv
  obtain ⟨S, hS⟩ : ∃ S, w2.setCell ⟨gb, 18, none⟩ (.int .i64 (1)) = S := ⟨_, rfl⟩
  rw [hS] at hkS hvg hvb
  have K1 := Lib.hid (fun wx (h : Kept S wx) => treeKids_no _ 4 _ D 0 wx (hvb.kept h) (by decide) (ht.kept (hkS.trans h)) (good_no (bad11_6)))
  have K2 := Lib.hid (fun wx (h : Kept S wx) => treeDepth_is _ 4 _ D 0 wx (hvb.kept h) (by decide) (ht.kept (hkS.trans h)) false (good_no (bad11_6)) _ rfl)
  have K3 := Lib.hid (fun wx (h : Kept S wx) => treeKids_no _ 4 _ nilD (3 + (1 + q)) wx (hvg.kept h) (by decide) (ht.kept (hkS.trans h)) (g11_high q0))
  have K4 := Lib.hid (fun wx (h : Kept S wx) => treeDepth_is _ 4 _ nilD (-(1 + q)) wx (hvg.kept h) (by decide) (ht.kept (hkS.trans h)) false (g11_low q0) _ rfl)
  have K5 := Lib.hid (fun wx (h : Kept S wx) => treeMay_is _ 4 _ nilD wx (hvg.kept h) (by decide) (ht.kept (hkS.trans h)) true g11_tree)
  have K6 := Lib.hid (fun wx (h : Kept S wx) => treeMay_is _ 4 _ D wx (hvb.kept h) (by decide) (ht.kept (hkS.trans h)) false (bad11_6))
  have hq : Kept S S := Kept.refl S
  have HS := Lib.hid hS
  clear hv hown hcur ho hn hk2 hvg hvb hgb hS ha
  go_upto_region 46 with fail
  rw [HS.out]
  go_wp2_with (first
    | (go_at_call 13; (with_reducible refine (K1.out _ hq).mono ?_); rintro e w3 ⟨o1, p1, rfl, hn⟩; replace hq := hq.trans hn; clear hn)
    | (go_at_call 13; (with_reducible refine (K3.out _ hq).mono ?_); rintro e w3 ⟨o2, p2, rfl, hn⟩; replace hq := hq.trans hn; clear hn)
    | (go_at_call 15; (with_reducible refine (K2.out _ hq).mono ?_); rintro e w3 ⟨rfl, hn⟩; replace hq := hq.trans hn; clear hn)
    | (go_at_call 15; (with_reducible refine (K4.out _ hq).mono ?_); rintro e w3 ⟨rfl, hn⟩; replace hq := hq.trans hn; clear hn)
    | (go_at_call 19; (with_reducible refine (K5.out _ hq).mono ?_); rintro e w3 ⟨rfl, hn⟩; replace hq := hq.trans hn; clear hn)
    | (go_at_call 19; (with_reducible refine (K6.out _ hq).mono ?_); rintro e w3 ⟨rfl, hn⟩; replace hq := hq.trans hn; clear hn)
    | (go_at_call 18; (with_reducible refine (num_any _ _).mono ?_); rintro e w4 ⟨rfl, rfl⟩))
  go_ret
  exact ⟨rfl, hkS.trans hq⟩
set_option maxHeartbeats 2000000 in
theorem treeForms_7 (which x q : Int) (hr : (IntKind.u64.wrap which).tmod 20 = 7) (hq : bits .and .i64 x 1023 = q) (q0 : 0 ≤ q) (q1 : q ≤ 1023) (w : World) (ht : NameT w) :
    Calls Tryd.prog 5 #[.int .i64 which, .int .i64 x] w fun e w' => e = .returned (.bool true) ∧ Kept w w' := by
  have hk : Kept w w := Kept.refl w
  go_enter Tryd.func5, Tryd.ntmps5
  go_wp2_with fail
  refine (awake11_any _ (ht.kept hk)).mono ?_
  rintro e w1 ⟨rfl, hn⟩
  replace hk := hk.trans hn
  clear hn
  go_wp2_with fail
  refine with_boxes1 ?_
  intro X hX a
  have hsz := hk.size
  replace hk := hk.trans hX
  clear hX
  have ha : NodesV X _ 4 (ndsL g11) nilD := nodes_lit a (by decide) g11 rfl (fun i hi => by
    rcases (by omega : i = 0 ∨ i = 1 ∨ i = 2 ∨ i = 3) with rfl | rfl | rfl | rfl <;> exact ⟨rfl, by decide⟩)
  clear a
  refine (copyNodes_main _ 4 4 (ndsL g11) nilD _ ha (by decide)).mono ?_
  rintro e w2 ⟨v, D, rfl, ho, hn⟩
  obtain ⟨gb, cap, cur, rfl, hgb, hown, hcur, hv⟩ := chg_view ho 2 1 (2 + (1 + q)) (by decide) (by decide)
  have c0 : w2.cell? ⟨gb, 13, none⟩ = some (.int .i64 (2)) := (hown.cell 13).trans (hcur 2 1 (by decide) (by decide))
  have cf := hown.free 13
  have cl := hown.lt
  have hk2 := hk.trans hn
  have hkS : Kept w (w2.setCell ⟨gb, 13, none⟩ (.int .i64 (2 + (1 + q)))) := hk2.set (Nat.le_trans hk.size hgb) _
  have hvg : NodesV (w2.setCell ⟨gb, 13, none⟩ (.int .i64 (2 + (1 + q)))) _ 4 (ndsL g11) nilD := ha.kept (hn.set hgb _)
  have hvb : NodesV (w2.setCell ⟨gb, 13, none⟩ (.int .i64 (2 + (1 + q)))) (.slice (some ⟨gb, 0, none⟩) 4 cap) 4 (chgN (ndsL g11) 2 (ndF (ndsL g11 2) 1 (2 + (1 + q)))) D := hv
  obtain ⟨S, hS⟩ : ∃ S, w2.setCell ⟨gb, 13, none⟩ (.int .i64 (2 + (1 + q))) = S := ⟨_, rfl⟩
  rw [hS] at hkS hvg hvb
  have K1 := Lib.hid (fun wx (h : Kept S wx) => treeKids_no _ 4 _ D 0 wx (hvb.kept h) (by decide) (ht.kept (hkS.trans h)) (good_no (bad11_7 q0)))
  have K2 := Lib.hid (fun wx (h : Kept S wx) => treeDepth_is _ 4 _ D 0 wx (hvb.kept h) (by decide) (ht.kept (hkS.trans h)) false (good_no (bad11_7 q0)) _ rfl)
  have K3 := Lib.hid (fun wx (h : Kept S wx) => treeKids_no _ 4 _ nilD (3 + (1 + q)) wx (hvg.kept h) (by decide) (ht.kept (hkS.trans h)) (g11_high q0))
  have K4 := Lib.hid (fun wx (h : Kept S wx) => treeDepth_is _ 4 _ nilD (-(1 + q)) wx (hvg.kept h) (by decide) (ht.kept (hkS.trans h)) false (g11_low q0) _ rfl)
  have K5 := Lib.hid (fun wx (h : Kept S wx) => treeMay_is _ 4 _ nilD wx (hvg.kept h) (by decide) (ht.kept (hkS.trans h)) true g11_tree)
  have K6 := Lib.hid (fun wx (h : Kept S wx) => treeMay_is _ 4 _ D wx (hvb.kept h) (by decide) (ht.kept (hkS.trans h)) false (bad11_7 q0))
  have hq : Kept S S := Kept.refl S
  have HS := Lib.hid hS
  clear hv hown hcur ho hn hk2 hvg hvb hgb hS ha
  go_upto_region 46 with fail
  rw [HS.out]
  go_wp2_with (first
    | (go_at_call 13; (with_reducible refine (K1.out _ hq).mono ?_); rintro e w3 ⟨o1, p1, rfl, hn⟩; replace hq := hq.trans hn; clear hn)
    | (go_at_call 13; (with_reducible refine (K3.out _ hq).mono ?_); rintro e w3 ⟨o2, p2, rfl, hn⟩; replace hq := hq.trans hn; clear hn)
    | (go_at_call 15; (with_reducible refine (K2.out _ hq).mono ?_); rintro e w3 ⟨rfl, hn⟩; replace hq := hq.trans hn; clear hn)
    | (go_at_call 15; (with_reducible refine (K4.out _ hq).mono ?_); rintro e w3 ⟨rfl, hn⟩; replace hq := hq.trans hn; clear hn)
    | (go_at_call 19; (with_reducible refine (K5.out _ hq).mono ?_); rintro e w3 ⟨rfl, hn⟩; replace hq := hq.trans hn; clear hn)
    | (go_at_call 19; (with_reducible refine (K6.out _ hq).mono ?_); rintro e w3 ⟨rfl, hn⟩; replace hq := hq.trans hn; clear hn)
    | (go_at_call 18; (with_reducible refine (num_any _ _).mono ?_); rintro e w4 ⟨rfl, rfl⟩))
  go_ret
  exact ⟨rfl, hkS.trans hq⟩
set_option maxHeartbeats 2000000 in
theorem treeForms_8 (which x q : Int) (hr : (IntKind.u64.wrap which).tmod 20 = 8) (hq : bits .and .i64 x 1023 = q) (q0 : 0 ≤ q) (q1 : q ≤ 1023) (w : World) (ht : NameT w) :
    Calls Tryd.prog 5 #[.int .i64 which, .int .i64 x] w fun e w' => e = .returned (.bool true) ∧ Kept w w' := by
  have hk : Kept w w := Kept.refl w
  go_enter Tryd.func5, Tryd.ntmps5
  go_wp2_with fail
  refine (awake11_any _ (ht.kept hk)).mono ?_
  rintro e w1 ⟨rfl, hn⟩
  replace hk := hk.trans hn
  clear hn
  go_wp2_with fail
  refine with_boxes1 ?_
  intro X hX a
  have hsz := hk.size
  replace hk := hk.trans hX
  clear hX
  have ha : NodesV X _ 4 (ndsL g11) nilD := nodes_lit a (by decide) g11 rfl (fun i hi => by
    rcases (by omega : i = 0 ∨ i = 1 ∨ i = 2 ∨ i = 3) with rfl | rfl | rfl | rfl <;> exact ⟨rfl, by decide⟩)
  clear a
  refine (copyNodes_main _ 4 4 (ndsL g11) nilD _ ha (by decide)).mono ?_
  rintro e w2 ⟨v, D, rfl, ho, hn⟩
  obtain ⟨gb, cap, cur, rfl, hgb, hown, hcur, hv⟩ := chg_view ho 2 2 (-(1 + q)) (by decide) (by decide)
  have c0 : w2.cell? ⟨gb, 14, none⟩ = some (.int .i64 (0)) := (hown.cell 14).trans (hcur 2 2 (by decide) (by decide))
  have cf := hown.free 14
  have cl := hown.lt
  have hk2 := hk.trans hn
  have hkS : Kept w (w2.setCell ⟨gb, 14, none⟩ (.int .i64 (-(1 + q)))) := hk2.set (Nat.le_trans hk.size hgb) _
  have hvg : NodesV (w2.setCell ⟨gb, 14, none⟩ (.int .i64 (-(1 + q)))) _ 4 (ndsL g11) nilD := ha.kept (hn.set hgb _)
  have hvb : NodesV (w2.setCell ⟨gb, 14, none⟩ (.int .i64 (-(1 + q)))) (.slice (some ⟨gb, 0, none⟩) 4 cap) 4 (chgN (ndsL g11) 2 (ndF (ndsL g11 2) 2 (-(1 + q)))) D := hv
  obtain ⟨S, hS⟩ : ∃ S, w2.setCell ⟨gb, 14, none⟩ (.int .i64 (-(1 + q))) = S := ⟨_, rfl⟩
  rw [hS] at hkS hvg hvb
  have K1 := Lib.hid (fun wx (h : Kept S wx) => treeKids_no _ 4 _ D 0 wx (hvb.kept h) (by decide) (ht.kept (hkS.trans h)) (good_no (bad11_8 q0)))
  have K2 := Lib.hid (fun wx (h : Kept S wx) => treeDepth_is _ 4 _ D 0 wx (hvb.kept h) (by decide) (ht.kept (hkS.trans h)) false (good_no (bad11_8 q0)) _ rfl)
  have K3 := Lib.hid (fun wx (h : Kept S wx) => treeKids_no _ 4 _ nilD (3 + (1 + q)) wx (hvg.kept h) (by decide) (ht.kept (hkS.trans h)) (g11_high q0))
  have K4 := Lib.hid (fun wx (h : Kept S wx) => treeDepth_is _ 4 _ nilD (-(1 + q)) wx (hvg.kept h) (by decide) (ht.kept (hkS.trans h)) false (g11_low q0) _ rfl)
  have K5 := Lib.hid (fun wx (h : Kept S wx) => treeMay_is _ 4 _ nilD wx (hvg.kept h) (by decide) (ht.kept (hkS.trans h)) true g11_tree)
  have K6 := Lib.hid (fun wx (h : Kept S wx) => treeMay_is _ 4 _ D wx (hvb.kept h) (by decide) (ht.kept (hkS.trans h)) false (bad11_8 q0))
  have hq : Kept S S := Kept.refl S
  have HS := Lib.hid hS
  clear hv hown hcur ho hn hk2 hvg hvb hgb hS ha
  go_upto_region 46 with fail
  rw [HS.out]
  go_wp2_with (first
    | (go_at_call 13; (with_reducible refine (K1.out _ hq).mono ?_); rintro e w3 ⟨o1, p1, rfl, hn⟩; replace hq := hq.trans hn; clear hn)
    | (go_at_call 13; (with_reducible refine (K3.out _ hq).mono ?_); rintro e w3 ⟨o2, p2, rfl, hn⟩; replace hq := hq.trans hn; clear hn)
    | (go_at_call 15; (with_reducible refine (K2.out _ hq).mono ?_); rintro e w3 ⟨rfl, hn⟩; replace hq := hq.trans hn; clear hn)
    | (go_at_call 15; (with_reducible refine (K4.out _ hq).mono ?_); rintro e w3 ⟨rfl, hn⟩; replace hq := hq.trans hn; clear hn)
    | (go_at_call 19; (with_reducible refine (K5.out _ hq).mono ?_); rintro e w3 ⟨rfl, hn⟩; replace hq := hq.trans hn; clear hn)
    | (go_at_call 19; (with_reducible refine (K6.out _ hq).mono ?_); rintro e w3 ⟨rfl, hn⟩; replace hq := hq.trans hn; clear hn)
    | (go_at_call 18; (with_reducible refine (num_any _ _).mono ?_); rintro e w4 ⟨rfl, rfl⟩))
  go_ret
  exact ⟨rfl, hkS.trans hq⟩
set_option maxHeartbeats 2000000 in
theorem treeForms_9 (which x q : Int) (hr : (IntKind.u64.wrap which).tmod 20 = 9) (hq : bits .and .i64 x 1023 = q) (q0 : 0 ≤ q) (q1 : q ≤ 1023) (w : World) (ht : NameT w) :
    Calls Tryd.prog 5 #[.int .i64 which, .int .i64 x] w fun e w' => e = .returned (.bool true) ∧ Kept w w' := by
  have hk : Kept w w := Kept.refl w
  go_enter Tryd.func5, Tryd.ntmps5
  go_wp2_with fail
  refine (awake11_any _ (ht.kept hk)).mono ?_
  rintro e w1 ⟨rfl, hn⟩
  replace hk := hk.trans hn
  clear hn
  go_wp2_with fail
  refine with_boxes1 ?_
  intro X hX a
  have hsz := hk.size
  replace hk := hk.trans hX
  clear hX
  have ha : NodesV X _ 4 (ndsL g11) nilD := nodes_lit a (by decide) g11 rfl (fun i hi => by
    rcases (by omega : i = 0 ∨ i = 1 ∨ i = 2 ∨ i = 3) with rfl | rfl | rfl | rfl <;> exact ⟨rfl, by decide⟩)
  clear a
  refine (copyNodes_main _ 4 4 (ndsL g11) nilD _ ha (by decide)).mono ?_
  rintro e w2 ⟨v, D, rfl, ho, hn⟩
  obtain ⟨gb, cap, cur, rfl, hgb, hown, hcur, hv⟩ := chg_view ho 2 3 (3 + (1 + q)) (by decide) (by decide)
  have c0 : w2.cell? ⟨gb, 15, none⟩ = some (.int .i64 (0)) := (hown.cell 15).trans (hcur 2 3 (by decide) (by decide))
  have cf := hown.free 15
  have cl := hown.lt
  have hk2 := hk.trans hn
  have hkS : Kept w (w2.setCell ⟨gb, 15, none⟩ (.int .i64 (3 + (1 + q)))) := hk2.set (Nat.le_trans hk.size hgb) _
  have hvg : NodesV (w2.setCell ⟨gb, 15, none⟩ (.int .i64 (3 + (1 + q)))) _ 4 (ndsL g11) nilD := ha.kept (hn.set hgb _)
  have hvb : NodesV (w2.setCell ⟨gb, 15, none⟩ (.int .i64 (3 + (1 + q)))) (.slice (some ⟨gb, 0, none⟩) 4 cap) 4 (chgN (ndsL g11) 2 (ndF (ndsL g11 2) 3 (3 + (1 + q)))) D := hv
  obtain ⟨S, hS⟩ : ∃ S, w2.setCell ⟨gb, 15, none⟩ (.int .i64 (3 + (1 + q))) = S := ⟨_, rfl⟩
  rw [hS] at hkS hvg hvb
  have K1 := Lib.hid (fun wx (h : Kept S wx) => treeKids_no _ 4 _ D 0 wx (hvb.kept h) (by decide) (ht.kept (hkS.trans h)) (good_no (bad11_9 q0)))
  have K2 := Lib.hid (fun wx (h : Kept S wx) => treeDepth_is _ 4 _ D 0 wx (hvb.kept h) (by decide) (ht.kept (hkS.trans h)) false (good_no (bad11_9 q0)) _ rfl)
  have K3 := Lib.hid (fun wx (h : Kept S wx) => treeKids_no _ 4 _ nilD (3 + (1 + q)) wx (hvg.kept h) (by decide) (ht.kept (hkS.trans h)) (g11_high q0))
  have K4 := Lib.hid (fun wx (h : Kept S wx) => treeDepth_is _ 4 _ nilD (-(1 + q)) wx (hvg.kept h) (by decide) (ht.kept (hkS.trans h)) false (g11_low q0) _ rfl)
  have K5 := Lib.hid (fun wx (h : Kept S wx) => treeMay_is _ 4 _ nilD wx (hvg.kept h) (by decide) (ht.kept (hkS.trans h)) true g11_tree)
  have K6 := Lib.hid (fun wx (h : Kept S wx) => treeMay_is _ 4 _ D wx (hvb.kept h) (by decide) (ht.kept (hkS.trans h)) false (bad11_9 q0))
  have hq : Kept S S := Kept.refl S
  have HS := Lib.hid hS
  clear hv hown hcur ho hn hk2 hvg hvb hgb hS ha
  go_upto_region 46 with fail
  rw [HS.out]
  go_wp2_with (first
    | (go_at_call 13; (with_reducible refine (K1.out _ hq).mono ?_); rintro e w3 ⟨o1, p1, rfl, hn⟩; replace hq := hq.trans hn; clear hn)
    | (go_at_call 13; (with_reducible refine (K3.out _ hq).mono ?_); rintro e w3 ⟨o2, p2, rfl, hn⟩; replace hq := hq.trans hn; clear hn)
    | (go_at_call 15; (with_reducible refine (K2.out _ hq).mono ?_); rintro e w3 ⟨rfl, hn⟩; replace hq := hq.trans hn; clear hn)
    | (go_at_call 15; (with_reducible refine (K4.out _ hq).mono ?_); rintro e w3 ⟨rfl, hn⟩; replace hq := hq.trans hn; clear hn)
    | (go_at_call 19; (with_reducible refine (K5.out _ hq).mono ?_); rintro e w3 ⟨rfl, hn⟩; replace hq := hq.trans hn; clear hn)
    | (go_at_call 19; (with_reducible refine (K6.out _ hq).mono ?_); rintro e w3 ⟨rfl, hn⟩; replace hq := hq.trans hn; clear hn)
    | (go_at_call 18; (with_reducible refine (num_any _ _).mono ?_); rintro e w4 ⟨rfl, rfl⟩))
  go_ret
  exact ⟨rfl, hkS.trans hq⟩
end Go.Proofs.YtpblajjfgnhkdaaDoor
