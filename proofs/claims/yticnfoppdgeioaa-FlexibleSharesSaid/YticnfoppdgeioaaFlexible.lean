/- Layer 20: growing, shrinking, by the program. -/
import Derived.Test.YticnfoppdgeioaaLineResolve
import Derived.Test.YticnfoppdgeioaaItemsMay
namespace Go.Proofs.Yticnfoppdgeioaa
open Go.RowKit Go.Maps
set_option linter.unusedSimpArgs false
set_option linter.unusedVariables false
def goodF (n : Nat) (I : Nat → Item) (room : Int) : Bool := mayI n I && inB 0 4194304 room
/-- sizes, or an error -/
def FlexPost (w : World) (n : Nat) (I : Nat → Item) (room : Int) (e : Ending) (w' : World) : Prop :=
  ∃ u E, e = .returned (.tuple #[u, .int .i64 E]) ∧ Kept w w' ∧ ((goodF n I room = true ∧ E = 0 ∧ Made 3 w w' u n (intZ (resS I room n))) ∨ (goodF n I room = false ∧ E = 2000 ∧ u = .slice none 0 0))
theorem rowResolve_v (v : Value) (n : Nat) (I : Nat → Item) (room : Int) (w : World) (h : ItV w v n I) (hm : mayI n I = true) (hr : inB 0 4194304 room = true) :
    Calls Try.prog 22 #[v, .int .i64 room] w fun e w' => ∃ u, e = .returned u ∧ Made 3 w w' u n (intZ (resS I room n)) ∧ Kept w w' := by
  obtain ⟨h1, h2⟩ := mayI_true.1 hm
  rcases h with ⟨o, cap, rfl, rfl⟩ | ⟨b, off, cap, rfl, hi⟩
  · exact rowResolve_any o 0 cap room I w (fun h => by omega) (fun i hi => by omega) h1 (inB_true.1 hr)
  · exact rowResolve_any _ n cap room I w (fun _ => ⟨b, off, rfl, hi⟩) (fun i hi => allI_yes h2 i hi) h1 (inB_true.1 hr)
theorem flexible_any (v : Value) (n : Nat) (I : Nat → Item) (room : Int) (w : World) (h : ItV w v n I) (hn : n ≤ 4611686018427387904) :
    Calls Try.prog 11 #[v, .int .i64 room] w (FlexPost w n I room) := by
  cases h1 : mayI n I with
  | false =>
    have Hs := Lib.hid (show goodF n I room = false by unfold goodF; rw [h1]; rfl)
    have hk : Kept w w := Kept.refl w
    go_enter Try.func11, Try.ntmps11
    go_wp2_with fail
    refine (flexMay_any _ n I _ (h.kept hk) hn).mono ?_
    rintro e w1 ⟨rfl, hn⟩
    replace hk := hk.trans hn
    clear hn
    go_wp2
    go_ret2
    exact ⟨_, _, rfl, hk, .inr ⟨Hs.out, rfl, rfl⟩⟩
  | true =>
    cases h2 : inB 0 4194304 room with
    | false =>
      have Hs := Lib.hid (show goodF n I room = false by unfold goodF; rw [h1, h2]; rfl)
      have hk : Kept w w := Kept.refl w
      go_enter Try.func11, Try.ntmps11
      go_wp2_with fail
      refine (flexMay_any _ n I _ (h.kept hk) hn).mono ?_
      rintro e w1 ⟨rfl, hn⟩
      replace hk := hk.trans hn
      clear hn
      go_wp2_with fail
      refine with_boxes1 ?_
      intro X hX q
      have hsz := hk.size
      replace hk := hk.trans hX
      clear hX
      replace q_l := q.lt
      replace q_0 := q.at 0 _ rfl
      refine (each1_any _ _ _ _ _ q_0).mono ?_
      rintro e w1 ⟨rfl, rfl⟩
      go_wp2
      go_ret2
      exact ⟨_, _, rfl, hk, .inr ⟨Hs.out, rfl, rfl⟩⟩
    | true =>
      have HC := Lib.hid (fun wx (hx : ItV wx v n I) => rowResolve_v v n I room wx hx h1 h2)
      have Hs := Lib.hid (show goodF n I room = true by unfold goodF; rw [h1, h2]; rfl)
      have hk : Kept w w := Kept.refl w
      go_enter Try.func11, Try.ntmps11
      go_wp2_with fail
      refine (flexMay_any _ n I _ (h.kept hk) hn).mono ?_
      rintro e w1 ⟨rfl, hn⟩
      replace hk := hk.trans hn
      clear hn
      go_wp2_with fail
      refine with_boxes1 ?_
      intro X hX q
      have hsz := hk.size
      replace hk := hk.trans hX
      clear hX
      replace q_l := q.lt
      replace q_0 := q.at 0 _ rfl
      refine (each1_any _ _ _ _ _ q_0).mono ?_
      rintro e w1 ⟨rfl, rfl⟩
      clear q
      clear q_l q_0
      go_wp2_with fail
      refine (HC.out _ (h.kept hk)).mono ?_
      rintro e w2 ⟨u, rfl, hu, hn2⟩
      replace hu := hu.earlier hk
      replace hk := hk.trans hn2
      go_wp2
      go_ret2
      exact ⟨_, _, rfl, hk, .inl ⟨Hs.out, rfl, hu⟩⟩
end Go.Proofs.Yticnfoppdgeioaa
