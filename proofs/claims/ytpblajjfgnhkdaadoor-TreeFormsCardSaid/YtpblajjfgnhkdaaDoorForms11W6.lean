/- Layer 11: trees that may not be: a text that is too long. -/
import Derived.Test.YtpblajjfgnhkdaaDoorForms11C
import Derived.Test.YtpblajjfgnhkdaaDoorMask
import Derived.Laws.BytesArg
namespace Go.Proofs.YtpblajjfgnhkdaaDoor
open Go.RowKit Go.Deep Go.ChangeShapes Go.WideShapes Go.Lib
set_option linter.unusedSimpArgs false
set_option linter.unusedVariables false
set_option maxRecDepth 200000
theorem u8Info11 : (Tryd.prog.info? 5).map (fun i => (i.zero, i.size, i.bytes)) = some (some (.int .u8 0), 1, 1) := by kernel_rfl
theorem zero_bytes (m i : Nat) (hi : i < m) : (madeCells (Value.cells (.int .u8 0)) m)[i]? = some (.int .u8 ((List.replicate m (0 : Int)).getD i 0)) := by
  unfold madeCells
  rw [Array.getElem?_map, Array.getElem?_range, if_pos (by simpa using hi)]
  simp [Value.cells, Nat.mod_one, hi]
set_option maxHeartbeats 2000000 in
theorem treeForms_17 (which x q : Int) (hr : (IntKind.u64.wrap which).tmod 20 = 17) (hq : bits .and .i64 x 1023 = q) (q0 : 0 ≤ q) (q1 : q ≤ 1023) (w : World) (ht : NameT w) :
    Calls Tryd.prog 5 #[.int .i64 which, .int .i64 x] w fun e w' => e = .returned (.bool true) ∧ Kept w w' := by
  have hk : Kept w w := Kept.refl w
  go_enter Tryd.func5, Tryd.ntmps5
  go_wp2_with fail
  refine (awake11_any _ (ht.kept hk)).mono ?_
  rintro e w1 ⟨rfl, hn⟩
  replace hk := hk.trans hn
  clear hn
  go_wp2_with fail
  refine with_boxes1 ?_
  intro X hX a
  have hsz := hk.size
  replace hk := hk.trans hX
  clear hX
  have ha : NodesV X _ 4 (ndsL g11) nilD := nodes_lit a (by decide) g11 rfl (fun i hi => by
    rcases (by omega : i = 0 ∨ i = 1 ∨ i = 2 ∨ i = 3) with rfl | rfl | rfl | rfl <;> exact ⟨rfl, by decide⟩)
  clear a
  refine (copyNodes_main _ 4 4 (ndsL g11) nilD _ ha (by decide)).mono ?_
  rintro e w2 ⟨v, D, rfl, ho, hn⟩
  obtain ⟨m, hm⟩ := Int.eq_ofNat_of_zero_le (show 0 ≤ 80 + (1 + q) by omega)
  have hmb : m ≤ 1104 ∧ 80 < m := by omega
  obtain ⟨i0, hi, hz0, hz1, hz2⟩ := info_parts u8Info11
  have hmk := run_make (P := Tryd.prog) w2 47 5 i0 _ Tryd.underlying47 hi hz0 .i64 .i64 (m : Int) (m : Int) (by omega) (Int.le_refl _) (by rw [hz2]; omega) (by omega)
  rw [hz1, Int.toNat_natCast, Nat.mul_one] at hmk
  have oA := Own.new w2 (madeCells (Value.cells (.int .u8 0)) m) 5
  have kA : Kept w2 (w2.alloc (.cells (madeCells (Value.cells (.int .u8 0)) m) 5)) := (Kept.refl w2).alloc _
  obtain ⟨A, hA⟩ : ∃ A, w2.alloc (.cells (madeCells (Value.cells (.int .u8 0)) m) 5) = A := ⟨_, rfl⟩
  rw [hA] at oA kA hmk
  have hcv := run_convert_bytes_arg (P := Tryd.prog) A 47 5 Tryd.underlying47 Tryd.underlying5 w2.heap.size 0 m m (List.replicate m 0) (by simp) (fun i hi => by rw [Nat.zero_add, oA.cell]; exact zero_bytes m i hi) 9 Tryd.underlying9
  obtain ⟨t, ht⟩ : ∃ t, strOfNums (List.replicate m 0) = t := ⟨_, rfl⟩
  have hts : t.size = m := by rw [← ht, strOfNums_size]; simp
  rw [ht] at hcv
  clear ht hA
  replace ho := ho.kept kA
  replace hn := hn.trans kA
  obtain ⟨gb, cap, cur, rfl, hgb, hown, hcur, hv⟩ := chgT_view ho 1 t (by decide) (by omega)
  have c0 : A.cell? ⟨gb, 11, none⟩ = some (.string ⟨#[97]⟩) := (hown.cell 11).trans (hcur 1 5 (by decide) (by decide))
  have cf := hown.free 11
  have cl := hown.lt
  have hk2 := hk.trans hn
  have hkS : Kept w (A.setCell ⟨gb, 11, none⟩ (.string t)) := hk2.set (Nat.le_trans hk.size hgb) _
  have hvg : NodesV (A.setCell ⟨gb, 11, none⟩ (.string t)) _ 4 (ndsL g11) nilD := ha.kept (hn.set hgb _)
  have hvb : NodesV (A.setCell ⟨gb, 11, none⟩ (.string t)) (.slice (some ⟨gb, 0, none⟩) 4 cap) 4 (chgN (ndsL g11) 1 (ndT (ndsL g11 1) t)) D := hv
  obtain ⟨S, hS⟩ : ∃ S, A.setCell ⟨gb, 11, none⟩ (.string t) = S := ⟨_, rfl⟩
  rw [hS] at hkS hvg hvb
  have HB17 := bad11_17 (t := t) (by omega)
  have K1 := Lib.hid (fun wx (h : Kept S wx) => treeKids_no _ 4 _ D 0 wx (hvb.kept h) (by decide) (ht.kept (hkS.trans h)) (good_no (HB17)))
  have K2 := Lib.hid (fun wx (h : Kept S wx) => treeDepth_is _ 4 _ D 0 wx (hvb.kept h) (by decide) (ht.kept (hkS.trans h)) false (good_no (HB17)) _ rfl)
  have K3 := Lib.hid (fun wx (h : Kept S wx) => treeKids_no _ 4 _ nilD (3 + (1 + q)) wx (hvg.kept h) (by decide) (ht.kept (hkS.trans h)) (g11_high q0))
  have K4 := Lib.hid (fun wx (h : Kept S wx) => treeDepth_is _ 4 _ nilD (-(1 + q)) wx (hvg.kept h) (by decide) (ht.kept (hkS.trans h)) false (g11_low q0) _ rfl)
  have K5 := Lib.hid (fun wx (h : Kept S wx) => treeMay_is _ 4 _ nilD wx (hvg.kept h) (by decide) (ht.kept (hkS.trans h)) true g11_tree)
  have K6 := Lib.hid (fun wx (h : Kept S wx) => treeMay_is _ 4 _ D wx (hvb.kept h) (by decide) (ht.kept (hkS.trans h)) false (HB17))
  have hq : Kept S S := Kept.refl S
  have HS := Lib.hid hS
  clear hv hown hcur ho hn hk2 hvg hvb hgb hS ha
  clear hmb hi hz0 hz1 hz2 oA kA hts
  go_upto_region 46 with fail
  rw [HS.out]
  go_wp2_with (first
    | (go_at_call 13; (with_reducible refine (K1.out _ hq).mono ?_); rintro e w3 ⟨o1, p1, rfl, hn⟩; replace hq := hq.trans hn; clear hn)
    | (go_at_call 13; (with_reducible refine (K3.out _ hq).mono ?_); rintro e w3 ⟨o2, p2, rfl, hn⟩; replace hq := hq.trans hn; clear hn)
    | (go_at_call 15; (with_reducible refine (K2.out _ hq).mono ?_); rintro e w3 ⟨rfl, hn⟩; replace hq := hq.trans hn; clear hn)
    | (go_at_call 15; (with_reducible refine (K4.out _ hq).mono ?_); rintro e w3 ⟨rfl, hn⟩; replace hq := hq.trans hn; clear hn)
    | (go_at_call 19; (with_reducible refine (K5.out _ hq).mono ?_); rintro e w3 ⟨rfl, hn⟩; replace hq := hq.trans hn; clear hn)
    | (go_at_call 19; (with_reducible refine (K6.out _ hq).mono ?_); rintro e w3 ⟨rfl, hn⟩; replace hq := hq.trans hn; clear hn)
    | (go_at_call 18; (with_reducible refine (num_any _ _).mono ?_); rintro e w4 ⟨rfl, rfl⟩))
  go_ret
  exact ⟨rfl, hkS.trans hq⟩
end Go.Proofs.YtpblajjfgnhkdaaDoor
