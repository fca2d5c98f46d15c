/- Layer 8: lengths, texts, numbers that are none. -/
import Derived.Test.YtlhhejgmgagbnaaDoorAwake8
import Derived.Test.YtlhhejgmgagbnaaDoorMask
import Derived.Deep.CutRange
import Derived.BigRegion
namespace Go.Proofs.YtlhhejgmgagbnaaDoor
open Go.RowKit
set_option linter.unusedSimpArgs false
set_option linter.unusedVariables false
set_option maxHeartbeats 4000000
def badKV (d : Int) : Nat → Int × Int
  | 0 => (0, d)
  | 1 => (0, -d)
  | 2 => (1, 8191 + d)
  | 3 => (1, -8191 - d)
  | 4 => (2, 100 + d)
  | 5 => (2, -100 - d)
  | 6 => (-d, 0)
  | _ => (2 + d, 0)
theorem bad_no {d : Int} (h1 : 1 ≤ d) (h2 : d ≤ 1024) (j : Nat) : lenB (badKV d j).1 (badKV d j).2 = false := by
  unfold lenB
  rcases j with _ | _ | _ | _ | _ | _ | _ | j
  · show (if (0 : Int) = 0 then d == 0 else _) = false
    rw [if_pos rfl]; simp; omega
  · show (if (0 : Int) = 0 then -d == 0 else _) = false
    rw [if_pos rfl]; simp; omega
  · show inB (-8191) 8191 (8191 + d) = false
    exact inB_false.2 (by omega)
  · show inB (-8191) 8191 (-8191 - d) = false
    exact inB_false.2 (by omega)
  · show inB (-100) 100 (100 + d) = false
    exact inB_false.2 (by omega)
  · show inB (-100) 100 (-100 - d) = false
    exact inB_false.2 (by omega)
  · show (if -d = 0 then _ else if -d = 1 then _ else if -d = 2 then _ else false) = false
    rw [if_neg (by omega), if_neg (by omega), if_neg (by omega)]
  · show (if 2 + d = 0 then _ else if 2 + d = 1 then _ else if 2 + d = 2 then _ else false) = false
    rw [if_neg (by omega), if_neg (by omega), if_neg (by omega)]
def txt8 : Nat → ByteArray
  | 0 => ⟨#[]⟩
  | 1 => ⟨#[45]⟩
  | 2 => ⟨#[37]⟩
  | 3 => ⟨#[45, 37]⟩
  | 4 => ⟨#[48, 48]⟩
  | 5 => ⟨#[48, 49]⟩
  | 6 => ⟨#[45, 48]⟩
  | 7 => ⟨#[45, 48, 37]⟩
  | 8 => ⟨#[56, 49, 57, 50]⟩
  | 9 => ⟨#[49, 48, 49, 37]⟩
  | 10 => ⟨#[45, 49, 48, 49, 37]⟩
  | 11 => ⟨#[49, 50, 32]⟩
  | 12 => ⟨#[32, 49, 50]⟩
  | 13 => ⟨#[49, 37, 50]⟩
  | 14 => ⟨#[65, 117, 116, 111]⟩
  | 15 => ⟨#[97, 117, 116, 111, 32]⟩
  | 16 => ⟨#[43, 49]⟩
  | 17 => ⟨#[49, 46, 53]⟩
  | 18 => ⟨#[57, 57, 57, 57, 57, 57, 57, 57, 57, 57, 57]⟩
  | _ => ⟨#[49, 101, 51]⟩
theorem txt8_no : ∀ i, i < 20 → parseS (txt8 i) = ((0, 0), 800) := by
  intro i hi
  rcases (by omega : i = 0 ∨ i = 1 ∨ i = 2 ∨ i = 3 ∨ i = 4 ∨ i = 5 ∨ i = 6 ∨ i = 7 ∨ i = 8 ∨ i = 9 ∨ i = 10 ∨ i = 11 ∨ i = 12 ∨ i = 13 ∨ i = 14 ∨ i = 15 ∨ i = 16 ∨ i = 17 ∨ i = 18 ∨ i = 19) with rfl | rfl | rfl | rfl | rfl | rfl | rfl | rfl | rfl | rfl | rfl | rfl | rfl | rfl | rfl | rfl | rfl | rfl | rfl | rfl
  · decide +kernel
  · decide +kernel
  · decide +kernel
  · decide +kernel
  · decide +kernel
  · decide +kernel
  · decide +kernel
  · decide +kernel
  · decide +kernel
  · decide +kernel
  · decide +kernel
  · decide +kernel
  · decide +kernel
  · decide +kernel
  · decide +kernel
  · decide +kernel
  · decide +kernel
  · decide +kernel
  · decide +kernel
  · decide +kernel
theorem txt8_size (i : Nat) (h : i < 20) : (txt8 i).size ≤ 140737488355328 := by
  rcases (by omega : i = 0 ∨ i = 1 ∨ i = 2 ∨ i = 3 ∨ i = 4 ∨ i = 5 ∨ i = 6 ∨ i = 7 ∨ i = 8 ∨ i = 9 ∨ i = 10 ∨ i = 11 ∨ i = 12 ∨ i = 13 ∨ i = 14 ∨ i = 15 ∨ i = 16 ∨ i = 17 ∨ i = 18 ∨ i = 19) with rfl | rfl | rfl | rfl | rfl | rfl | rfl | rfl | rfl | rfl | rfl | rfl | rfl | rfl | rfl | rfl | rfl | rfl | rfl | rfl <;> decide
theorem lengthForms_main (a q b : Int) (n m : Nat) (hq : bits .and .i64 b 1023 = q) (q0 : 0 ≤ q) (q1 : q ≤ 1023) (hj : (IntKind.u64.wrap a).tmod 8 = (n : Int)) (hn : n < 8) (hm : (IntKind.u64.wrap a).tmod 20 = (m : Int)) (hm2 : m < 20) (w : World) (hp : Pow w) :
    Calls Tryd.prog 4 #[.int .i64 a, .int .i64 b] w fun e w' => e = .returned (.bool true) ∧ Kept w w' := by
  have hk : Kept w w := Kept.refl w
  go_enter Tryd.func4, Tryd.ntmps4
  go_wp2_with fail
  refine (awake8_any _ (hp.kept hk)).mono ?_
  rintro e w1 ⟨rfl, hn⟩
  replace hk := hk.trans hn
  clear hn
  go_upto_region 5 with fail
  refine code_boxes1 ?_
  intro X hX s
  have hsz := hk.size
  replace hk := hk.trans hX
  clear hX
  obtain ⟨A, hA⟩ : ∃ z, w1.heap.size = z := ⟨_, rfl⟩
  rw [hA] at s ⊢
  clear hA
  have cK : X.cell? ⟨A, n * 2, none⟩ = some (.int .i64 (badKV (1 + q) n).1) := by
    rw [s.cell]
    rcases (by omega : n = 0 ∨ n = 1 ∨ n = 2 ∨ n = 3 ∨ n = 4 ∨ n = 5 ∨ n = 6 ∨ n = 7) with rfl | rfl | rfl | rfl | rfl | rfl | rfl | rfl <;> rfl
  have cV : X.cell? ⟨A, n * 2 + 1, none⟩ = some (.int .i64 (badKV (1 + q) n).2) := by
    rw [s.cell]
    rcases (by omega : n = 0 ∨ n = 1 ∨ n = 2 ∨ n = 3 ∨ n = 4 ∨ n = 5 ∨ n = 6 ∨ n = 7) with rfl | rfl | rfl | rfl | rfl | rfl | rfl | rfl <;> rfl
  have HB := Lib.hid (bad_no (d := 1 + q) (by omega) (by omega) n)
  generalize (badKV (1 + q) n).1 = K at *
  generalize (badKV (1 + q) n).2 = V at *
  clear s
  have H1 := Lib.hid (fun wx (hx : Pow wx) => show_is K V ⟨#[]⟩ 800 wx hx (if_neg (by rw [HB.out]; decide)))
  have H2 := Lib.hid (fun wx => used_is K V 0 0 0 800 wx (by unfold used8S; rw [HB.out]; rfl))
  have H3 := Lib.hid (fun wx (hx : Pow wx) => parse_is (txt8 m) 0 0 800 wx (txt8_size m hm2) hx (txt8_no m hm2))
  have H4 := Lib.hid (fun wx => used_is 0 0 (1073741824 + (1 + q)) 0 0 800 wx (by unfold used8S; rw [show mayB (1073741824 + (1 + q)) = false from by unfold mayB; simp; omega]; rfl))
  have H5 := Lib.hid (fun wx => used_is 0 0 0 (-1073741824 - (1 + q)) 0 800 wx (by unfold used8S; rw [show mayB (-1073741824 - (1 + q)) = false from by unfold mayB; simp; omega]; rfl))
  have H6 := Lib.hid (fun wx => lenMay_is K V false wx HB.out)
  go_wp2_with fail
  refine with_boxes1 ?_
  intro X hX b
  have hsz := hk.size
  replace hk := hk.trans hX
  clear hX
  refine (H1.out _ (hp.kept hk)).mono ?_
  rintro e w1 ⟨rfl, hn⟩
  replace hk := hk.trans hn
  replace b := b.kept hn
  clear hn
  replace b_l := b.lt
  replace b_0 := b.at 0 _ rfl
  replace b_f0 := b.free 0
  replace b_1 := b.at 1 _ rfl
  replace b_f1 := b.free 1
  go_wp2_with fail
  refine (H2.out _).mono ?_
  rintro e w1 ⟨rfl, hn⟩
  replace hk := hk.trans hn
  replace b := b.kept hn
  clear hn
  go_upto_region 9 with fail
  refine code_boxes1 ?_
  intro X hX t
  have hsz := hk.size
  replace hk := hk.trans hX
  replace b := b.kept hX
  clear hX
  obtain ⟨B, hB⟩ : ∃ z, w1.heap.size = z := ⟨_, rfl⟩
  rw [hB] at t ⊢
  clear hB
  have cT : X.cell? ⟨B, m, none⟩ = some (.string (txt8 m)) := by
    rw [t.cell]
    rcases (by omega : m = 0 ∨ m = 1 ∨ m = 2 ∨ m = 3 ∨ m = 4 ∨ m = 5 ∨ m = 6 ∨ m = 7 ∨ m = 8 ∨ m = 9 ∨ m = 10 ∨ m = 11 ∨ m = 12 ∨ m = 13 ∨ m = 14 ∨ m = 15 ∨ m = 16 ∨ m = 17 ∨ m = 18 ∨ m = 19) with rfl | rfl | rfl | rfl | rfl | rfl | rfl | rfl | rfl | rfl | rfl | rfl | rfl | rfl | rfl | rfl | rfl | rfl | rfl | rfl <;> rfl
  clear t
  generalize txt8 m = t at *
  go_wp2_with fail
  refine (H3.out _ (hp.kept hk)).mono ?_
  rintro e w1 ⟨rfl, hn⟩
  replace hk := hk.trans hn
  replace b := b.kept hn
  clear hn
  go_wp2_with fail
  refine with_boxes1 ?_
  intro X hX y
  have hsz := hk.size
  replace hk := hk.trans hX
  replace b := b.kept hX
  clear hX
  refine (H4.out _).mono ?_
  rintro e w1 ⟨rfl, hn⟩
  replace hk := hk.trans hn
  replace b := b.kept hn
  replace y := y.kept hn
  clear hn
  go_wp2_with fail
  refine (H5.out _).mono ?_
  rintro e w1 ⟨rfl, hn⟩
  replace hk := hk.trans hn
  replace b := b.kept hn
  replace y := y.kept hn
  clear hn
  replace b_l := b.lt
  replace b_0 := b.at 0 _ rfl
  replace b_f0 := b.free 0
  replace b_1 := b.at 1 _ rfl
  replace b_f1 := b.free 1
  replace y_l := y.lt
  replace y_0 := y.at 0 _ rfl
  replace y_f0 := y.free 0
  replace y_1 := y.at 1 _ rfl
  replace y_f1 := y.free 1
  go_wp2_with fail
  refine (H6.out _).mono ?_
  rintro e w1 ⟨rfl, hn⟩
  replace hk := hk.trans hn
  replace b := b.kept hn
  replace y := y.kept hn
  clear hn
  replace y_l := y.lt
  replace y_0 := y.at 0 _ rfl
  replace y_f0 := y.free 0
  replace y_1 := y.at 1 _ rfl
  replace y_f1 := y.free 1
  go_wp2_with fail
  refine (num_any _ _).mono ?_
  rintro e w1 ⟨rfl, rfl⟩
  go_wp2_with fail
  refine (num_any _ _).mono ?_
  rintro e w1 ⟨rfl, rfl⟩
  go_wp2_with fail
  refine (num_any _ _).mono ?_
  rintro e w1 ⟨rfl, rfl⟩
  go_wp2_with fail
  refine (num_any _ _).mono ?_
  rintro e w1 ⟨rfl, rfl⟩
  go_wp2_with fail
  refine (num_any _ _).mono ?_
  rintro e w1 ⟨rfl, rfl⟩
  go_wp2
  go_ret
  exact ⟨rfl, hk⟩
theorem lengthForms_walk (a b : Int) (w : World) (hp : Pow w) :
    Calls Tryd.prog 4 #[.int .i64 a, .int .i64 b] w fun e w' => e = .returned (.bool true) ∧ Kept w w' := by
  obtain ⟨q, hq, q0, q1⟩ := masked b 10 1023 rfl (by decide)
  obtain ⟨j, hj, j0, j1⟩ := urest2 a 8 (by decide)
  obtain ⟨k, hk, k0, k1⟩ := urest2 a 20 (by decide)
  obtain ⟨n, rfl⟩ := Int.eq_ofNat_of_zero_le j0
  obtain ⟨m, rfl⟩ := Int.eq_ofNat_of_zero_le k0
  exact lengthForms_main a q b n m hq q0 q1 hj (by omega) hk (by omega) w hp
end Go.Proofs.YtlhhejgmgagbnaaDoor
