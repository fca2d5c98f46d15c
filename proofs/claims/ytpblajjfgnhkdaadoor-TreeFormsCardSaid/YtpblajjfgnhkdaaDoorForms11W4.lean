/- Layer 11: trees that may not be: declarations, a text. -/
import Derived.Test.YtpblajjfgnhkdaaDoorForms11C
import Derived.Test.YtpblajjfgnhkdaaDoorMask
namespace Go.Proofs.YtpblajjfgnhkdaaDoor
open Go.RowKit Go.Deep
set_option linter.unusedSimpArgs false
set_option linter.unusedVariables false
set_option maxRecDepth 200000
set_option maxHeartbeats 2000000 in
theorem treeForms_19 (which x q : Int) (hr : (IntKind.u64.wrap which).tmod 20 = 19) (hq : bits .and .i64 x 1023 = q) (q0 : 0 ≤ q) (q1 : q ≤ 1023) (w : World) (ht : NameT w) :
    Calls Tryd.prog 5 #[.int .i64 which, .int .i64 x] w fun e w' => e = .returned (.bool true) ∧ Kept w w' := by
  have hk : Kept w w := Kept.refl w
  go_enter Tryd.func5, Tryd.ntmps5
  go_wp2_with fail
  refine (awake11_any _ (ht.kept hk)).mono ?_
  rintro e w1 ⟨rfl, hn⟩
  replace hk := hk.trans hn
  clear hn
  go_wp2_with fail
  refine with_boxes1 ?_
  intro X hX a
  have hsz := hk.size
  replace hk := hk.trans hX
  clear hX
  have ha : NodesV X _ 4 (ndsL g11) nilD := nodes_lit a (by decide) g11 rfl (fun i hi => by
    rcases (by omega : i = 0 ∨ i = 1 ∨ i = 2 ∨ i = 3) with rfl | rfl | rfl | rfl <;> exact ⟨rfl, by decide⟩)
  clear a
  refine (copyNodes_main _ 4 4 (ndsL g11) nilD _ ha (by decide)).mono ?_
  rintro e w2 ⟨v, D, rfl, ho, hn⟩
  obtain ⟨gb, cap, cur, rfl, hgb, hown, hcur, hv⟩ := chgT_view ho 3 ⟨#[97]⟩ (by decide) (by decide)
  have c0 : w2.cell? ⟨gb, 23, none⟩ = some (.string ⟨#[]⟩) := (hown.cell 23).trans (hcur 3 5 (by decide) (by decide))
  have cf := hown.free 23
  have cl := hown.lt
  have hk2 := hk.trans hn
  have hkS : Kept w (w2.setCell ⟨gb, 23, none⟩ (.string ⟨#[97]⟩)) := hk2.set (Nat.le_trans hk.size hgb) _
  have hvg : NodesV (w2.setCell ⟨gb, 23, none⟩ (.string ⟨#[97]⟩)) _ 4 (ndsL g11) nilD := ha.kept (hn.set hgb _)
  have hvb : NodesV (w2.setCell ⟨gb, 23, none⟩ (.string ⟨#[97]⟩)) (.slice (some ⟨gb, 0, none⟩) 4 cap) 4 (chgN (ndsL g11) 3 (ndT (ndsL g11 3) ⟨#[97]⟩)) D := hv
  obtain ⟨S, hS⟩ : ∃ S, w2.setCell ⟨gb, 23, none⟩ (.string ⟨#[97]⟩) = S := ⟨_, rfl⟩
  rw [hS] at hkS hvg hvb
  have K1 := Lib.hid (fun wx (h : Kept S wx) => treeKids_no _ 4 _ D 0 wx (hvb.kept h) (by decide) (ht.kept (hkS.trans h)) (good_no (bad11_19)))
  have K2 := Lib.hid (fun wx (h : Kept S wx) => treeDepth_is _ 4 _ D 0 wx (hvb.kept h) (by decide) (ht.kept (hkS.trans h)) false (good_no (bad11_19)) _ rfl)
  have K3 := Lib.hid (fun wx (h : Kept S wx) => treeKids_no _ 4 _ nilD (3 + (1 + q)) wx (hvg.kept h) (by decide) (ht.kept (hkS.trans h)) (g11_high q0))
  have K4 := Lib.hid (fun wx (h : Kept S wx) => treeDepth_is _ 4 _ nilD (-(1 + q)) wx (hvg.kept h) (by decide) (ht.kept (hkS.trans h)) false (g11_low q0) _ rfl)
  have K5 := Lib.hid (fun wx (h : Kept S wx) => treeMay_is _ 4 _ nilD wx (hvg.kept h) (by decide) (ht.kept (hkS.trans h)) true g11_tree)
  have K6 := Lib.hid (fun wx (h : Kept S wx) => treeMay_is _ 4 _ D wx (hvb.kept h) (by decide) (ht.kept (hkS.trans h)) false (bad11_19))
  have hq : Kept S S := Kept.refl S
  have HS := Lib.hid hS
  clear hv hown hcur ho hn hk2 hvg hvb hgb hS ha
  go_upto_region 46 with fail
  rw [HS.out]
  go_wp2_with (first
    | (go_at_call 13; (with_reducible refine (K1.out _ hq).mono ?_); rintro e w3 ⟨o1, p1, rfl, hn⟩; replace hq := hq.trans hn; clear hn)
    | (go_at_call 13; (with_reducible refine (K3.out _ hq).mono ?_); rintro e w3 ⟨o2, p2, rfl, hn⟩; replace hq := hq.trans hn; clear hn)
    | (go_at_call 15; (with_reducible refine (K2.out _ hq).mono ?_); rintro e w3 ⟨rfl, hn⟩; replace hq := hq.trans hn; clear hn)
    | (go_at_call 15; (with_reducible refine (K4.out _ hq).mono ?_); rintro e w3 ⟨rfl, hn⟩; replace hq := hq.trans hn; clear hn)
    | (go_at_call 19; (with_reducible refine (K5.out _ hq).mono ?_); rintro e w3 ⟨rfl, hn⟩; replace hq := hq.trans hn; clear hn)
    | (go_at_call 19; (with_reducible refine (K6.out _ hq).mono ?_); rintro e w3 ⟨rfl, hn⟩; replace hq := hq.trans hn; clear hn)
    | (go_at_call 18; (with_reducible refine (num_any _ _).mono ?_); rintro e w4 ⟨rfl, rfl⟩))
  go_ret
  exact ⟨rfl, hkS.trans hq⟩
set_option maxHeartbeats 2000000 in
theorem treeForms_15 (which x q : Int) (hr : (IntKind.u64.wrap which).tmod 20 = 15) (hq : bits .and .i64 x 1023 = q) (q0 : 0 ≤ q) (q1 : q ≤ 1023) (w : World) (ht : NameT w) :
    Calls Tryd.prog 5 #[.int .i64 which, .int .i64 x] w fun e w' => e = .returned (.bool true) ∧ Kept w w' := by
  have hk : Kept w w := Kept.refl w
  go_enter Tryd.func5, Tryd.ntmps5
  go_wp2_with fail
  refine (awake11_any _ (ht.kept hk)).mono ?_
  rintro e w1 ⟨rfl, hn⟩
  replace hk := hk.trans hn
  clear hn
  go_wp2_with fail
  refine with_boxes1 ?_
  intro X hX a
  have hsz := hk.size
  replace hk := hk.trans hX
  clear hX
  have ha : NodesV X _ 4 (ndsL g11) nilD := nodes_lit a (by decide) g11 rfl (fun i hi => by
    rcases (by omega : i = 0 ∨ i = 1 ∨ i = 2 ∨ i = 3) with rfl | rfl | rfl | rfl <;> exact ⟨rfl, by decide⟩)
  clear a
  refine (copyNodes_main _ 4 4 (ndsL g11) nilD _ ha (by decide)).mono ?_
  rintro e w2 ⟨v, D, rfl, ho, hn⟩
  obtain ⟨gb, cap, cur, rfl, hgb, hown, hcur, hv⟩ := chgD_view ho 2 1 (fun _ => -(1 + q)) (fun _ => ⟨#[]⟩) #[.int .i64 (-(1 + q)), .string ⟨#[]⟩] (by decide) (by decide) (by decide) (fun i' j' hi hj => by
    obtain rfl : i' = 0 := by omega
    rcases (by omega : j' = 0 ∨ j' = 1) with rfl | rfl <;> rfl) (fun j hj => by decide)
  obtain ⟨od, cd, hDn⟩ := copy_nil ho (i := 2) (by decide) rfl
  have c0 : w2.cell? ⟨gb, 16, none⟩ = some (.slice od 0 cd) := (hown.cell 16).trans ((hcur 2 4 (by decide) (by decide)).trans (congrArg some hDn))
  have cf := hown.free 16
  have cl := hown.lt
  have hA9 := hown.alloc (.cells #[.int .i64 (-(1 + q)), .string ⟨#[]⟩] 46)
  have c1 := (hA9.cell 16).trans ((hcur 2 4 (by decide) (by decide)).trans (congrArg some hDn))
  have cf1 := hA9.free 16
  have cl1 : gb < w2.heap.size + 1 := by omega
  clear hA9
  have hk2 := hk.trans hn
  have hkS : Kept w ((w2.alloc (.cells #[.int .i64 (-(1 + q)), .string ⟨#[]⟩] 46)).setCell ⟨gb, 16, none⟩ (.slice (some ⟨w2.heap.size, 0, none⟩) 1 1)) := (hk2.alloc _).set (Nat.le_trans hk.size hgb) _
  have hvg : NodesV ((w2.alloc (.cells #[.int .i64 (-(1 + q)), .string ⟨#[]⟩] 46)).setCell ⟨gb, 16, none⟩ (.slice (some ⟨w2.heap.size, 0, none⟩) 1 1)) _ 4 (ndsL g11) nilD := ha.kept ((hn.alloc _).set hgb _)
  have hvb : NodesV ((w2.alloc (.cells #[.int .i64 (-(1 + q)), .string ⟨#[]⟩] 46)).setCell ⟨gb, 16, none⟩ (.slice (some ⟨w2.heap.size, 0, none⟩) 1 1)) (.slice (some ⟨gb, 0, none⟩) 4 cap) 4 (chgN (ndsL g11) 2 (ndD (ndsL g11 2) 1 (fun _ => -(1 + q)) (fun _ => ⟨#[]⟩))) (fun j => if j = 2 then .slice (some ⟨w2.heap.size, 0, none⟩) 1 1 else D j) := hv
  obtain ⟨D2, hD2⟩ : ∃ D2 : Nat → Value, (fun j => if j = 2 then .slice (some ⟨w2.heap.size, 0, none⟩) 1 1 else D j) = D2 := ⟨_, rfl⟩
  rw [hD2] at hvb
  clear hD2 hDn
  have hcomm : (w2.setCell ⟨gb, 16, none⟩ (.slice (some ⟨w2.heap.size, 0, none⟩) 1 1)).alloc (.cells #[.int .i64 (-(1 + q)), .string ⟨#[]⟩] 46) = (w2.alloc (.cells #[.int .i64 (-(1 + q)), .string ⟨#[]⟩] 46)).setCell ⟨gb, 16, none⟩ (.slice (some ⟨w2.heap.size, 0, none⟩) 1 1) := by go_simp
  have HCM := Lib.hid hcomm
  clear hcomm
  obtain ⟨S, hS⟩ : ∃ S, (w2.alloc (.cells #[.int .i64 (-(1 + q)), .string ⟨#[]⟩] 46)).setCell ⟨gb, 16, none⟩ (.slice (some ⟨w2.heap.size, 0, none⟩) 1 1) = S := ⟨_, rfl⟩
  rw [hS] at hkS hvg hvb
  have K1 := Lib.hid (fun wx (h : Kept S wx) => treeKids_no _ 4 _ D2 0 wx (hvb.kept h) (by decide) (ht.kept (hkS.trans h)) (good_no (bad11_15 q0)))
  have K2 := Lib.hid (fun wx (h : Kept S wx) => treeDepth_is _ 4 _ D2 0 wx (hvb.kept h) (by decide) (ht.kept (hkS.trans h)) false (good_no (bad11_15 q0)) _ rfl)
  have K3 := Lib.hid (fun wx (h : Kept S wx) => treeKids_no _ 4 _ nilD (3 + (1 + q)) wx (hvg.kept h) (by decide) (ht.kept (hkS.trans h)) (g11_high q0))
  have K4 := Lib.hid (fun wx (h : Kept S wx) => treeDepth_is _ 4 _ nilD (-(1 + q)) wx (hvg.kept h) (by decide) (ht.kept (hkS.trans h)) false (g11_low q0) _ rfl)
  have K5 := Lib.hid (fun wx (h : Kept S wx) => treeMay_is _ 4 _ nilD wx (hvg.kept h) (by decide) (ht.kept (hkS.trans h)) true g11_tree)
  have K6 := Lib.hid (fun wx (h : Kept S wx) => treeMay_is _ 4 _ D2 wx (hvb.kept h) (by decide) (ht.kept (hkS.trans h)) false (bad11_15 q0))
  have hq : Kept S S := Kept.refl S
  have HS := Lib.hid hS
  clear hv hown hcur ho hn hk2 hvg hvb hgb hS ha
  go_upto_region 46 with fail
  first | rw [HS.out] | rw [HCM.out, HS.out]
  go_wp2_with (first
    | (go_at_call 13; (with_reducible refine (K1.out _ hq).mono ?_); rintro e w3 ⟨o1, p1, rfl, hn⟩; replace hq := hq.trans hn; clear hn)
    | (go_at_call 13; (with_reducible refine (K3.out _ hq).mono ?_); rintro e w3 ⟨o2, p2, rfl, hn⟩; replace hq := hq.trans hn; clear hn)
    | (go_at_call 15; (with_reducible refine (K2.out _ hq).mono ?_); rintro e w3 ⟨rfl, hn⟩; replace hq := hq.trans hn; clear hn)
    | (go_at_call 15; (with_reducible refine (K4.out _ hq).mono ?_); rintro e w3 ⟨rfl, hn⟩; replace hq := hq.trans hn; clear hn)
    | (go_at_call 19; (with_reducible refine (K5.out _ hq).mono ?_); rintro e w3 ⟨rfl, hn⟩; replace hq := hq.trans hn; clear hn)
    | (go_at_call 19; (with_reducible refine (K6.out _ hq).mono ?_); rintro e w3 ⟨rfl, hn⟩; replace hq := hq.trans hn; clear hn)
    | (go_at_call 18; (with_reducible refine (num_any _ _).mono ?_); rintro e w4 ⟨rfl, rfl⟩))
  go_ret
  exact ⟨rfl, hkS.trans hq⟩
set_option maxHeartbeats 2000000 in
theorem treeForms_16 (which x q : Int) (hr : (IntKind.u64.wrap which).tmod 20 = 16) (hq : bits .and .i64 x 1023 = q) (q0 : 0 ≤ q) (q1 : q ≤ 1023) (w : World) (ht : NameT w) :
    Calls Tryd.prog 5 #[.int .i64 which, .int .i64 x] w fun e w' => e = .returned (.bool true) ∧ Kept w w' := by
  have hk : Kept w w := Kept.refl w
  go_enter Tryd.func5, Tryd.ntmps5
  go_wp2_with fail
  refine (awake11_any _ (ht.kept hk)).mono ?_
  rintro e w1 ⟨rfl, hn⟩
  replace hk := hk.trans hn
  clear hn
  go_wp2_with fail
  refine with_boxes1 ?_
  intro X hX a
  have hsz := hk.size
  replace hk := hk.trans hX
  clear hX
  have ha : NodesV X _ 4 (ndsL g11) nilD := nodes_lit a (by decide) g11 rfl (fun i hi => by
    rcases (by omega : i = 0 ∨ i = 1 ∨ i = 2 ∨ i = 3) with rfl | rfl | rfl | rfl <;> exact ⟨rfl, by decide⟩)
  clear a
  refine (copyNodes_main _ 4 4 (ndsL g11) nilD _ ha (by decide)).mono ?_
  rintro e w2 ⟨v, D, rfl, ho, hn⟩
  obtain ⟨gb, cap, cur, rfl, hgb, hown, hcur, hv⟩ := chgD_view ho 2 1 (fun _ => 0) (fun _ => ⟨#[49, 50, 51, 52, 53, 54, 55, 56, 57, 48, 49, 50, 51, 52, 53, 54, 55]⟩) #[.int .i64 0, .string ⟨#[49, 50, 51, 52, 53, 54, 55, 56, 57, 48, 49, 50, 51, 52, 53, 54, 55]⟩] (by decide) (by decide) (by decide) (fun i' j' hi hj => by
    obtain rfl : i' = 0 := by omega
    rcases (by omega : j' = 0 ∨ j' = 1) with rfl | rfl <;> rfl) (fun j hj => by decide)
  obtain ⟨od, cd, hDn⟩ := copy_nil ho (i := 2) (by decide) rfl
  have c0 : w2.cell? ⟨gb, 16, none⟩ = some (.slice od 0 cd) := (hown.cell 16).trans ((hcur 2 4 (by decide) (by decide)).trans (congrArg some hDn))
  have cf := hown.free 16
  have cl := hown.lt
  have hA9 := hown.alloc (.cells #[.int .i64 0, .string ⟨#[49, 50, 51, 52, 53, 54, 55, 56, 57, 48, 49, 50, 51, 52, 53, 54, 55]⟩] 46)
  have c1 := (hA9.cell 16).trans ((hcur 2 4 (by decide) (by decide)).trans (congrArg some hDn))
  have cf1 := hA9.free 16
  have cl1 : gb < w2.heap.size + 1 := by omega
  clear hA9
  have hk2 := hk.trans hn
  have hkS : Kept w ((w2.alloc (.cells #[.int .i64 0, .string ⟨#[49, 50, 51, 52, 53, 54, 55, 56, 57, 48, 49, 50, 51, 52, 53, 54, 55]⟩] 46)).setCell ⟨gb, 16, none⟩ (.slice (some ⟨w2.heap.size, 0, none⟩) 1 1)) := (hk2.alloc _).set (Nat.le_trans hk.size hgb) _
  have hvg : NodesV ((w2.alloc (.cells #[.int .i64 0, .string ⟨#[49, 50, 51, 52, 53, 54, 55, 56, 57, 48, 49, 50, 51, 52, 53, 54, 55]⟩] 46)).setCell ⟨gb, 16, none⟩ (.slice (some ⟨w2.heap.size, 0, none⟩) 1 1)) _ 4 (ndsL g11) nilD := ha.kept ((hn.alloc _).set hgb _)
  have hvb : NodesV ((w2.alloc (.cells #[.int .i64 0, .string ⟨#[49, 50, 51, 52, 53, 54, 55, 56, 57, 48, 49, 50, 51, 52, 53, 54, 55]⟩] 46)).setCell ⟨gb, 16, none⟩ (.slice (some ⟨w2.heap.size, 0, none⟩) 1 1)) (.slice (some ⟨gb, 0, none⟩) 4 cap) 4 (chgN (ndsL g11) 2 (ndD (ndsL g11 2) 1 (fun _ => 0) (fun _ => ⟨#[49, 50, 51, 52, 53, 54, 55, 56, 57, 48, 49, 50, 51, 52, 53, 54, 55]⟩))) (fun j => if j = 2 then .slice (some ⟨w2.heap.size, 0, none⟩) 1 1 else D j) := hv
  obtain ⟨D2, hD2⟩ : ∃ D2 : Nat → Value, (fun j => if j = 2 then .slice (some ⟨w2.heap.size, 0, none⟩) 1 1 else D j) = D2 := ⟨_, rfl⟩
  rw [hD2] at hvb
  clear hD2 hDn
  have hcomm : (w2.setCell ⟨gb, 16, none⟩ (.slice (some ⟨w2.heap.size, 0, none⟩) 1 1)).alloc (.cells #[.int .i64 0, .string ⟨#[49, 50, 51, 52, 53, 54, 55, 56, 57, 48, 49, 50, 51, 52, 53, 54, 55]⟩] 46) = (w2.alloc (.cells #[.int .i64 0, .string ⟨#[49, 50, 51, 52, 53, 54, 55, 56, 57, 48, 49, 50, 51, 52, 53, 54, 55]⟩] 46)).setCell ⟨gb, 16, none⟩ (.slice (some ⟨w2.heap.size, 0, none⟩) 1 1) := by go_simp
  have HCM := Lib.hid hcomm
  clear hcomm
  obtain ⟨S, hS⟩ : ∃ S, (w2.alloc (.cells #[.int .i64 0, .string ⟨#[49, 50, 51, 52, 53, 54, 55, 56, 57, 48, 49, 50, 51, 52, 53, 54, 55]⟩] 46)).setCell ⟨gb, 16, none⟩ (.slice (some ⟨w2.heap.size, 0, none⟩) 1 1) = S := ⟨_, rfl⟩
  rw [hS] at hkS hvg hvb
  have K1 := Lib.hid (fun wx (h : Kept S wx) => treeKids_no _ 4 _ D2 0 wx (hvb.kept h) (by decide) (ht.kept (hkS.trans h)) (good_no (bad11_16)))
  have K2 := Lib.hid (fun wx (h : Kept S wx) => treeDepth_is _ 4 _ D2 0 wx (hvb.kept h) (by decide) (ht.kept (hkS.trans h)) false (good_no (bad11_16)) _ rfl)
  have K3 := Lib.hid (fun wx (h : Kept S wx) => treeKids_no _ 4 _ nilD (3 + (1 + q)) wx (hvg.kept h) (by decide) (ht.kept (hkS.trans h)) (g11_high q0))
  have K4 := Lib.hid (fun wx (h : Kept S wx) => treeDepth_is _ 4 _ nilD (-(1 + q)) wx (hvg.kept h) (by decide) (ht.kept (hkS.trans h)) false (g11_low q0) _ rfl)
  have K5 := Lib.hid (fun wx (h : Kept S wx) => treeMay_is _ 4 _ nilD wx (hvg.kept h) (by decide) (ht.kept (hkS.trans h)) true g11_tree)
  have K6 := Lib.hid (fun wx (h : Kept S wx) => treeMay_is _ 4 _ D2 wx (hvb.kept h) (by decide) (ht.kept (hkS.trans h)) false (bad11_16))
  have hq : Kept S S := Kept.refl S
  have HS := Lib.hid hS
  clear hv hown hcur ho hn hk2 hvg hvb hgb hS ha
  go_upto_region 46 with fail
  first | rw [HS.out] | rw [HCM.out, HS.out]
  go_wp2_with (first
    | (go_at_call 13; (with_reducible refine (K1.out _ hq).mono ?_); rintro e w3 ⟨o1, p1, rfl, hn⟩; replace hq := hq.trans hn; clear hn)
    | (go_at_call 13; (with_reducible refine (K3.out _ hq).mono ?_); rintro e w3 ⟨o2, p2, rfl, hn⟩; replace hq := hq.trans hn; clear hn)
    | (go_at_call 15; (with_reducible refine (K2.out _ hq).mono ?_); rintro e w3 ⟨rfl, hn⟩; replace hq := hq.trans hn; clear hn)
    | (go_at_call 15; (with_reducible refine (K4.out _ hq).mono ?_); rintro e w3 ⟨rfl, hn⟩; replace hq := hq.trans hn; clear hn)
    | (go_at_call 19; (with_reducible refine (K5.out _ hq).mono ?_); rintro e w3 ⟨rfl, hn⟩; replace hq := hq.trans hn; clear hn)
    | (go_at_call 19; (with_reducible refine (K6.out _ hq).mono ?_); rintro e w3 ⟨rfl, hn⟩; replace hq := hq.trans hn; clear hn)
    | (go_at_call 18; (with_reducible refine (num_any _ _).mono ?_); rintro e w4 ⟨rfl, rfl⟩))
  go_ret
  exact ⟨rfl, hkS.trans hq⟩
set_option maxHeartbeats 2000000 in
theorem treeForms_18 (which x q : Int) (hr : (IntKind.u64.wrap which).tmod 20 = 18) (hq : bits .and .i64 x 1023 = q) (q0 : 0 ≤ q) (q1 : q ≤ 1023) (w : World) (ht : NameT w) :
    Calls Tryd.prog 5 #[.int .i64 which, .int .i64 x] w fun e w' => e = .returned (.bool true) ∧ Kept w w' := by
  have hk : Kept w w := Kept.refl w
  go_enter Tryd.func5, Tryd.ntmps5
  go_wp2_with fail
  refine (awake11_any _ (ht.kept hk)).mono ?_
  rintro e w1 ⟨rfl, hn⟩
  replace hk := hk.trans hn
  clear hn
  go_wp2_with fail
  refine with_boxes1 ?_
  intro X hX a
  have hsz := hk.size
  replace hk := hk.trans hX
  clear hX
  have ha : NodesV X _ 4 (ndsL g11) nilD := nodes_lit a (by decide) g11 rfl (fun i hi => by
    rcases (by omega : i = 0 ∨ i = 1 ∨ i = 2 ∨ i = 3) with rfl | rfl | rfl | rfl <;> exact ⟨rfl, by decide⟩)
  clear a
  refine (copyNodes_main _ 4 4 (ndsL g11) nilD _ ha (by decide)).mono ?_
  rintro e w2 ⟨v, D, rfl, ho, hn⟩
  obtain ⟨gb, cap, cur, rfl, hgb, hown, hcur, hv⟩ := chgD_view ho 1 1 (fun _ => 0) (fun _ => ⟨#[53]⟩) #[.int .i64 0, .string ⟨#[53]⟩] (by decide) (by decide) (by decide) (fun i' j' hi hj => by
    obtain rfl : i' = 0 := by omega
    rcases (by omega : j' = 0 ∨ j' = 1) with rfl | rfl <;> rfl) (fun j hj => by decide)
  obtain ⟨od, cd, hDn⟩ := copy_nil ho (i := 1) (by decide) rfl
  have c0 : w2.cell? ⟨gb, 10, none⟩ = some (.slice od 0 cd) := (hown.cell 10).trans ((hcur 1 4 (by decide) (by decide)).trans (congrArg some hDn))
  have cf := hown.free 10
  have cl := hown.lt
  have hA9 := hown.alloc (.cells #[.int .i64 0, .string ⟨#[53]⟩] 46)
  have c1 := (hA9.cell 10).trans ((hcur 1 4 (by decide) (by decide)).trans (congrArg some hDn))
  have cf1 := hA9.free 10
  have cl1 : gb < w2.heap.size + 1 := by omega
  clear hA9
  have hk2 := hk.trans hn
  have hkS : Kept w ((w2.alloc (.cells #[.int .i64 0, .string ⟨#[53]⟩] 46)).setCell ⟨gb, 10, none⟩ (.slice (some ⟨w2.heap.size, 0, none⟩) 1 1)) := (hk2.alloc _).set (Nat.le_trans hk.size hgb) _
  have hvg : NodesV ((w2.alloc (.cells #[.int .i64 0, .string ⟨#[53]⟩] 46)).setCell ⟨gb, 10, none⟩ (.slice (some ⟨w2.heap.size, 0, none⟩) 1 1)) _ 4 (ndsL g11) nilD := ha.kept ((hn.alloc _).set hgb _)
  have hvb : NodesV ((w2.alloc (.cells #[.int .i64 0, .string ⟨#[53]⟩] 46)).setCell ⟨gb, 10, none⟩ (.slice (some ⟨w2.heap.size, 0, none⟩) 1 1)) (.slice (some ⟨gb, 0, none⟩) 4 cap) 4 (chgN (ndsL g11) 1 (ndD (ndsL g11 1) 1 (fun _ => 0) (fun _ => ⟨#[53]⟩))) (fun j => if j = 1 then .slice (some ⟨w2.heap.size, 0, none⟩) 1 1 else D j) := hv
  obtain ⟨D2, hD2⟩ : ∃ D2 : Nat → Value, (fun j => if j = 1 then .slice (some ⟨w2.heap.size, 0, none⟩) 1 1 else D j) = D2 := ⟨_, rfl⟩
  rw [hD2] at hvb
  clear hD2 hDn
  have hcomm : (w2.setCell ⟨gb, 10, none⟩ (.slice (some ⟨w2.heap.size, 0, none⟩) 1 1)).alloc (.cells #[.int .i64 0, .string ⟨#[53]⟩] 46) = (w2.alloc (.cells #[.int .i64 0, .string ⟨#[53]⟩] 46)).setCell ⟨gb, 10, none⟩ (.slice (some ⟨w2.heap.size, 0, none⟩) 1 1) := by go_simp
  have HCM := Lib.hid hcomm
  clear hcomm
  obtain ⟨S, hS⟩ : ∃ S, (w2.alloc (.cells #[.int .i64 0, .string ⟨#[53]⟩] 46)).setCell ⟨gb, 10, none⟩ (.slice (some ⟨w2.heap.size, 0, none⟩) 1 1) = S := ⟨_, rfl⟩
  rw [hS] at hkS hvg hvb
  have K1 := Lib.hid (fun wx (h : Kept S wx) => treeKids_no _ 4 _ D2 0 wx (hvb.kept h) (by decide) (ht.kept (hkS.trans h)) (good_no (bad11_18)))
  have K2 := Lib.hid (fun wx (h : Kept S wx) => treeDepth_is _ 4 _ D2 0 wx (hvb.kept h) (by decide) (ht.kept (hkS.trans h)) false (good_no (bad11_18)) _ rfl)
  have K3 := Lib.hid (fun wx (h : Kept S wx) => treeKids_no _ 4 _ nilD (3 + (1 + q)) wx (hvg.kept h) (by decide) (ht.kept (hkS.trans h)) (g11_high q0))
  have K4 := Lib.hid (fun wx (h : Kept S wx) => treeDepth_is _ 4 _ nilD (-(1 + q)) wx (hvg.kept h) (by decide) (ht.kept (hkS.trans h)) false (g11_low q0) _ rfl)
  have K5 := Lib.hid (fun wx (h : Kept S wx) => treeMay_is _ 4 _ nilD wx (hvg.kept h) (by decide) (ht.kept (hkS.trans h)) true g11_tree)
  have K6 := Lib.hid (fun wx (h : Kept S wx) => treeMay_is _ 4 _ D2 wx (hvb.kept h) (by decide) (ht.kept (hkS.trans h)) false (bad11_18))
  have hq : Kept S S := Kept.refl S
  have HS := Lib.hid hS
  clear hv hown hcur ho hn hk2 hvg hvb hgb hS ha
  go_upto_region 46 with fail
  first | rw [HS.out] | rw [HCM.out, HS.out]
  go_wp2_with (first
    | (go_at_call 13; (with_reducible refine (K1.out _ hq).mono ?_); rintro e w3 ⟨o1, p1, rfl, hn⟩; replace hq := hq.trans hn; clear hn)
    | (go_at_call 13; (with_reducible refine (K3.out _ hq).mono ?_); rintro e w3 ⟨o2, p2, rfl, hn⟩; replace hq := hq.trans hn; clear hn)
    | (go_at_call 15; (with_reducible refine (K2.out _ hq).mono ?_); rintro e w3 ⟨rfl, hn⟩; replace hq := hq.trans hn; clear hn)
    | (go_at_call 15; (with_reducible refine (K4.out _ hq).mono ?_); rintro e w3 ⟨rfl, hn⟩; replace hq := hq.trans hn; clear hn)
    | (go_at_call 19; (with_reducible refine (K5.out _ hq).mono ?_); rintro e w3 ⟨rfl, hn⟩; replace hq := hq.trans hn; clear hn)
    | (go_at_call 19; (with_reducible refine (K6.out _ hq).mono ?_); rintro e w3 ⟨rfl, hn⟩; replace hq := hq.trans hn; clear hn)
    | (go_at_call 18; (with_reducible refine (num_any _ _).mono ?_); rintro e w4 ⟨rfl, rfl⟩))
  go_ret
  exact ⟨rfl, hkS.trans hq⟩
end Go.Proofs.YtpblajjfgnhkdaaDoor
