/- Layer 19: what every program answers that is one; any items. -/
import Derived.Test.YtpjppnomfponfaaFlex19
import Derived.Test.YtpjppnomfponfaaSpoilI
namespace Go.Proofs.Ytpjppnomfponfaa
open Go.RowKit
set_option linter.unusedSimpArgs false
set_option linter.unusedVariables false
def a19 : Nat → Nat → Int := zL [[40, 0, 99, 0, 0, 0], [50, 0, 30, 0, 0, 5], [10, 60, 99, 0, 0, 0]]
def b19 : Nat → Nat → Int := zL [[-1, 0, 0, 0, 0, 0]]
theorem a19_may : mayI 3 (itemOf a19) = true := by decide
theorem a19_good : goodC 3 (itemOf a19) 75 = true := by decide
theorem a19_two : ∀ i, i < 2 → (linC (outS (itemOf a19)) 75 true 3).Z i = intL [2, 1] i := by decide
theorem a19_one : ∀ i, i < 1 → (linC (outS (itemOf a19)) 75 false 3).Z i = intL [3] i := by decide
theorem a19_m2 : colM 3 (itemOf a19) 75 true = 2 := by decide
theorem a19_m1 : colM 3 (itemOf a19) 75 false = 1 := by decide
theorem a19_e : colE 3 (itemOf a19) 75 = 0 := by decide
theorem a19_f : colE 3 (itemOf a19) (-1) = 1900 := by decide
theorem b19_f : colE 1 (itemOf b19) 1 = 1900 := by decide
theorem newOnes_same {t : TypeId} {a w : World} {v : Value} {m : Nat} {Z Y : Nat → Int} (h : NewOnes t a w v m Z) (e : ∀ i, i < m → Z i = Y i) : NewOnes t a w v m Y := by
  rcases h with h0 | ⟨b, cap, cur, h1, h2, h3, h4, h5, h6, h7, h8⟩
  · exact .inl h0
  · exact .inr ⟨b, cap, cur, h1, h2, h3, h4, h5, h6, h7, fun i hi => by rw [← e i hi]; exact h8 i hi⟩
theorem flexCollect_is (v : Value) (n : Nat) (I : Nat → Item) (room : Int) (wrap : Bool) (w : World) (h : ItV w v n I) (hn : n ≤ 4611686018427387904) (E : Int) (M : Nat) (Y : Nat → Int)
    (hE : colE n I room = E) (hM : colM n I room wrap = M) (hY : ∀ i, i < M → (linC (outS I) room wrap n).Z i = Y i) :
    Calls Try.prog 18 #[v, .int .i64 room, .bool wrap] w fun e w' => ∃ u, e = .returned (.tuple #[u, .int .i64 E]) ∧ NewOnes 3 w w' u M Y ∧ Kept w w' := by
  subst hE hM
  exact (flexCollect_any v n I room wrap w h hn).mono fun e w' ⟨u, he, hu, hk⟩ => ⟨u, he, newOnes_same hu hY, hk⟩
theorem flexMay_is (v : Value) (n : Nat) (I : Nat → Item) (w : World) (h : ItV w v n I) (hn : n ≤ 4611686018427387904) (b : Bool) (hb : mayI n I = b) :
    Calls Try.prog 21 #[v] w fun e w' => e = .returned (.bool b) ∧ Kept w w' := by subst hb; exact flexMay_any v n I w h hn
set_option maxHeartbeats 2000000 in
theorem awake19_any (w : World) :
    Calls Try.prog 25 #[] w fun e w' => e = .returned (.bool true) ∧ Kept w w' := by
  have M := Lib.hid a19_may
  have hk : Kept w w := Kept.refl w
  go_enter Try.func25, Try.ntmps25
  go_wp2_with fail
  refine with_boxes1 ?_
  intro X hX a
  have hsz := hk.size
  replace hk := hk.trans hX
  clear hX
  have ha : ItV X _ 3 (itemOf a19) := itv_row (rv_lit a 6 3 (by decide) (intC a19) rfl)
  clear a
  go_wp2_with fail
  refine (flexCollect_is _ 3 _ _ _ _ ha (by decide) 0 2 _ a19_e a19_m2 a19_two).mono ?_
  rintro e w1 ⟨u, rfl, hu, hn⟩
  replace hk := hk.trans hn
  replace ha := ha.kept hn
  clear hn
  go_wp2_with fail
  refine (flexCollect_is _ 3 _ _ _ _ ha (by decide) 0 1 _ a19_e a19_m1 a19_one).mono ?_
  rintro e w1 ⟨v, rfl, hv, hn⟩
  replace hk := hk.trans hn
  replace ha := ha.kept hn
  replace hu := hu.kept hn
  clear hn
  go_wp2_with fail
  refine (flexCollect_is _ 3 _ _ _ _ ha (by decide) 1900 0 (fun _ => 0) a19_f rfl (fun i hi => by omega)).mono ?_
  rintro e w1 ⟨v3, rfl, _, hn⟩
  replace hk := hk.trans hn
  replace ha := ha.kept hn
  replace hu := hu.kept hn
  replace hv := hv.kept hn
  clear hn
  go_wp2_with fail
  refine with_boxes1 ?_
  intro X hX b
  have hsz := hk.size
  replace hk := hk.trans hX
  replace ha := ha.kept hX
  replace hu := hu.kept hX
  replace hv := hv.kept hX
  clear hX
  refine (flexCollect_is _ 1 _ _ _ _ (itv_row (rv_lit b 6 1 (by decide) (intC b19) rfl)) (by decide) 1900 0 (fun _ => 0) b19_f rfl (fun i hi => by omega)).mono ?_
  rintro e w1 ⟨v4, rfl, _, hn⟩
  replace hk := hk.trans hn
  replace ha := ha.kept hn
  replace hu := hu.kept hn
  replace hv := hv.kept hn
  replace b := b.kept hn
  clear hn
  go_wp2_with fail
  refine (flexMay_is _ 3 _ _ ha (by decide) true M.out).mono ?_
  rintro e w1 ⟨rfl, hn⟩
  replace hk := hk.trans hn
  replace ha := ha.kept hn
  replace hu := hu.kept hn
  replace hv := hv.kept hn
  replace b := b.kept hn
  clear hn
  go_wp2_with fail
  refine with_boxes1 ?_
  intro X hX c
  have hsz := hk.size
  replace hk := hk.trans hX
  replace ha := ha.kept hX
  replace hu := hu.kept hX
  replace hv := hv.kept hX
  replace b := b.kept hX
  clear hX
  refine (sameIV_yes hu.iv (iv_two c) (by decide)).mono ?_
  rintro e w1 ⟨rfl, hn⟩
  replace hk := hk.trans hn
  replace ha := ha.kept hn
  replace hu := hu.kept hn
  replace hv := hv.kept hn
  replace b := b.kept hn
  replace c := c.kept hn
  clear hn
  go_wp2_with fail
  refine (num_any _ _).mono ?_
  rintro e w1 ⟨rfl, rfl⟩
  go_wp2_with fail
  refine with_boxes1 ?_
  intro X hX d
  have hsz := hk.size
  replace hk := hk.trans hX
  replace ha := ha.kept hX
  replace hu := hu.kept hX
  replace hv := hv.kept hX
  replace b := b.kept hX
  replace c := c.kept hX
  clear hX
  refine (sameIV_yes hv.iv (iv_one d) (by decide)).mono ?_
  rintro e w1 ⟨rfl, hn⟩
  replace hk := hk.trans hn
  replace ha := ha.kept hn
  replace hu := hu.kept hn
  replace hv := hv.kept hn
  replace b := b.kept hn
  replace c := c.kept hn
  replace d := d.kept hn
  clear hn
  go_wp2_with fail
  refine (num_any _ _).mono ?_
  rintro e w1 ⟨rfl, rfl⟩
  go_wp2_with fail
  refine (num_any _ _).mono ?_
  rintro e w1 ⟨rfl, rfl⟩
  go_wp2_with fail
  refine (num_any _ _).mono ?_
  rintro e w1 ⟨rfl, rfl⟩
  go_wp2
  go_ret
  exact ⟨rfl, hk⟩
end Go.Proofs.Ytpjppnomfponfaa
