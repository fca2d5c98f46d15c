/- Layer 8: any length, text, numbers. -/
import Derived.Test.YtlhhejgmgagbnaaDoorAwake8
import Derived.Test.YtlhhejgmgagbnaaDoorRefParse3
import Derived.Test.YtlhhejgmgagbnaaDoorHeld
import Derived.Deep.RegionHeld3
import Derived.BigRegion
namespace Go.Proofs.YtlhhejgmgagbnaaDoor
open Go.RowKit
set_option linter.unusedSimpArgs false
set_option linter.unusedVariables false
set_option maxHeartbeats 4000000
theorem refParse_is (s : ByteArray) (k v e0 : Int) (w : World) (hn : s.size ≤ 140737488355328) (h : parseS s = ((k, v), e0)) :
    Calls Tryd.prog 14 #[.string s] w fun e w' => e = .returned (.tuple #[lenV k v, .int .i64 e0]) ∧ Kept w w' := by
  have := refParse_any s w hn
  rwa [h] at this
theorem refUsed_is (k v o a x e0 : Int) (w : World) (h : used8S k v o a = (x, e0)) :
    Calls Tryd.prog 16 #[lenV k v, .int .i64 o, .int .i64 a] w fun e w' => e = .returned (.tuple #[.int .i64 x, .int .i64 e0]) ∧ Kept w w' := by
  have := ref8Used_any k v o a w
  rwa [h] at this
theorem held8 {w W X : World} {p0 p1 p2 p3 p4 p5 : Addr} {v0 v1 v2 v3 v4 v5 : Value} (h : Kept w W ∧ W.cell? p0 = some v0 ∧ W.cell? p1 = some v1 ∧ W.cell? p2 = some v2 ∧ W.cell? p3 = some v3 ∧ W.cell? p4 = some v4 ∧ W.cell? p5 = some v5) (k : Kept W X) :
    Kept w X ∧ X.cell? p0 = some v0 ∧ X.cell? p1 = some v1 ∧ X.cell? p2 = some v2 ∧ X.cell? p3 = some v3 ∧ X.cell? p4 = some v4 ∧ X.cell? p5 = some v5 := by
  obtain ⟨h, h0, h1, h2, h3, h4, h5⟩ := h
  exact ⟨h.trans k, (k.cell (World.block_lt_of_cell? _ _ h0)).trans h0, (k.cell (World.block_lt_of_cell? _ _ h1)).trans h1, (k.cell (World.block_lt_of_cell? _ _ h2)).trans h2, (k.cell (World.block_lt_of_cell? _ _ h3)).trans h3, (k.cell (World.block_lt_of_cell? _ _ h4)).trans h4, (k.cell (World.block_lt_of_cell? _ _ h5)).trans h5⟩
theorem lengths_main (k v : Int) (s : ByteArray) (o a : Int) (T : ByteArray) (E k1 v1 F x G : Int) (b : Bool) (w : World) (hn : s.size ≤ 140737488355328) (hp : Pow w) (h1 : showS k v = (T, E)) (h2 : parseS s = ((k1, v1), F)) (h3 : used8S k v o a = (x, G)) (h4 : lenB k v = b) :
    Calls Tryd.prog 3 #[lenV k v, .string s, .int .i64 o, .int .i64 a] w fun e w' => e = .returned (.bool true) ∧ Kept w w' := by
  have H1 := Lib.hid (fun wx (hx : Pow wx) => show_is k v T E wx hx h1)
  have H2 := Lib.hid (fun wx => refShow_is k v T E wx h1)
  have H3 := Lib.hid (fun wx (hx : Pow wx) => parse_is s k1 v1 F wx hn hx h2)
  have H4 := Lib.hid (fun wx => refParse_is s k1 v1 F wx hn h2)
  have H5 := Lib.hid (fun wx => used_is k v o a x G wx h3)
  have H6 := Lib.hid (fun wx => refUsed_is k v o a x G wx h3)
  have H7 := Lib.hid (fun wx => lenMay_is k v b wx h4)
  have H8 := Lib.hid (fun wx => refLenMay_is k v b wx h4)
  clear h1 h2 h3 h4
  have hk : Kept w w := Kept.refl w
  go_enter Tryd.func3, Tryd.ntmps3
  go_wp2_with fail
  refine with_boxes1 ?_
  intro X hX bx
  have hsz := hk.size
  replace hk := hk.trans hX
  clear hX
  replace bx_l := bx.lt
  replace bx_0 := bx.at 0 _ rfl
  replace bx_1 := bx.at 1 _ rfl
  refine (H1.out _ (hp.kept hk)).mono ?_
  rintro e w1 ⟨rfl, hn⟩
  replace hk := hk.trans hn
  replace bx := bx.kept hn
  clear hn
  replace bx_l := bx.lt
  replace bx_0 := bx.at 0 _ rfl
  replace bx_1 := bx.at 1 _ rfl
  go_wp2_with fail
  refine (H2.out _).mono ?_
  rintro e w1 ⟨rfl, hn⟩
  replace hk := hk.trans hn
  replace bx := bx.kept hn
  clear hn
  replace bx_l := bx.lt
  replace bx_0 := bx.at 0 _ rfl
  replace bx_1 := bx.at 1 _ rfl
  go_wp2_with fail
  refine (H3.out _ (hp.kept hk)).mono ?_
  rintro e w1 ⟨rfl, hn⟩
  replace hk := hk.trans hn
  replace bx := bx.kept hn
  clear hn
  replace bx_l := bx.lt
  replace bx_0 := bx.at 0 _ rfl
  replace bx_1 := bx.at 1 _ rfl
  obtain ⟨A, hA⟩ : ∃ z, w1.heap.size = z := ⟨_, rfl⟩
  have HA1 := Lib.hid hA
  clear hA
  go_wp2_with fail
  refine with_boxes1 ?_
  intro X hX ba
  have hsz := hk.size
  replace hk := hk.trans hX
  replace bx := bx.kept hX
  clear hX
  replace bx_l := bx.lt
  replace bx_0 := bx.at 0 _ rfl
  replace bx_1 := bx.at 1 _ rfl
  replace ba_l := ba.lt
  replace ba_0 := ba.at 0 _ rfl
  replace ba_1 := ba.at 1 _ rfl
  refine (H4.out _).mono ?_
  rintro e w1 ⟨rfl, hn⟩
  replace hk := hk.trans hn
  replace bx := bx.kept hn
  replace ba := ba.kept hn
  clear hn
  replace bx_l := bx.lt
  replace bx_0 := bx.at 0 _ rfl
  replace bx_1 := bx.at 1 _ rfl
  replace ba_l := ba.lt
  replace ba_0 := ba.at 0 _ rfl
  replace ba_1 := ba.at 1 _ rfl
  obtain ⟨B, hB⟩ : ∃ z, w1.heap.size = z := ⟨_, rfl⟩
  have HB1 := Lib.hid hB
  clear hB
  go_wp2_with fail
  refine with_boxes1 ?_
  intro X hX bb
  have hsz := hk.size
  replace hk := hk.trans hX
  replace bx := bx.kept hX
  replace ba := ba.kept hX
  clear hX
  replace bx_l := bx.lt
  replace bx_0 := bx.at 0 _ rfl
  replace bx_1 := bx.at 1 _ rfl
  replace ba_l := ba.lt
  replace ba_0 := ba.at 0 _ rfl
  replace ba_1 := ba.at 1 _ rfl
  replace bb_l := bb.lt
  replace bb_0 := bb.at 0 _ rfl
  replace bb_1 := bb.at 1 _ rfl
  refine (H5.out _).mono ?_
  rintro e w1 ⟨rfl, hn⟩
  replace hk := hk.trans hn
  replace bx := bx.kept hn
  replace ba := ba.kept hn
  replace bb := bb.kept hn
  clear hn
  replace bx_l := bx.lt
  replace bx_0 := bx.at 0 _ rfl
  replace bx_1 := bx.at 1 _ rfl
  replace ba_l := ba.lt
  replace ba_0 := ba.at 0 _ rfl
  replace ba_1 := ba.at 1 _ rfl
  replace bb_l := bb.lt
  replace bb_0 := bb.at 0 _ rfl
  replace bb_1 := bb.at 1 _ rfl
  go_wp2_with fail
  refine (H6.out _).mono ?_
  rintro e w1 ⟨rfl, hn⟩
  replace hk := hk.trans hn
  replace bx := bx.kept hn
  replace ba := ba.kept hn
  replace bb := bb.kept hn
  clear hn
  replace bx_l := bx.lt
  replace bx_0 := bx.at 0 _ rfl
  replace bx_1 := bx.at 1 _ rfl
  replace ba_l := ba.lt
  replace ba_0 := ba.at 0 _ rfl
  replace ba_1 := ba.at 1 _ rfl
  replace bb_l := bb.lt
  replace bb_0 := bb.at 0 _ rfl
  replace bb_1 := bb.at 1 _ rfl
  go_wp2_with fail
  rw [HA1.out] at ba_0 ba_1 ⊢
  rw [HB1.out] at bb_0 bb_1 ⊢
  have hS := held8 ⟨Kept.refl w1, bx_0, bx_1, ba_0, ba_1, bb_0, bb_1⟩ (Kept.refl _).drew
  have HA := Lib.hid (awake8_any)
  go_region_held3 (fun W => Kept w1 W ∧ W.cell? ⟨w.heap.size, 0, none⟩ = some (.int .i64 k) ∧ W.cell? ⟨w.heap.size, 1, none⟩ = some (.int .i64 v) ∧ W.cell? ⟨A, 0, none⟩ = some (.int .i64 k1) ∧ W.cell? ⟨A, 1, none⟩ = some (.int .i64 v1) ∧ W.cell? ⟨B, 0, none⟩ = some (.int .i64 k1) ∧ W.cell? ⟨B, 1, none⟩ = some (.int .i64 v1))
    (first | exact hS | assumption | exact held8 ‹Kept w1 _ ∧ _› hn)
    (first
      | (go_at_call 17; (with_reducible refine (num_any _ _).mono ?_); rintro e w3 ⟨rfl, rfl⟩)
      | (go_at_call 18; (with_reducible refine (H7.out _).mono ?_); rintro e w3 ⟨rfl, hn⟩)
      | (go_at_call 19; (with_reducible refine (H8.out _).mono ?_); rintro e w3 ⟨rfl, hn⟩)
      | (go_at_call 20; (with_reducible refine (HA.out _ (hp.kept (hk.trans (‹Kept w1 _ ∧ _›).1))).mono ?_); rintro e w3 ⟨rfl, hn⟩))
  have hq := (‹Kept w1 _ ∧ _›).1
  replace hk := hk.trans hq
  clear hS hq hn bx ba bb bx_0 bx_1 ba_0 ba_1 bb_0 bb_1 bx_l ba_l bb_l
  go_wp2
  go_ret
  exact ⟨rfl, hk⟩
theorem lengths_walk (k v : Int) (s : ByteArray) (o a : Int) (hn : s.size ≤ 140737488351232) (w : World) (hp : Pow w) :
    Calls Tryd.prog 3 #[lenV k v, .string s, .int .i64 o, .int .i64 a] w fun e w' => e = .returned (.bool true) ∧ Kept w w' :=
  lengths_main k v s o a _ _ _ _ _ _ _ _ w (by omega) hp rfl rfl rfl rfl
end Go.Proofs.YtlhhejgmgagbnaaDoor
