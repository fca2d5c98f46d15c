/- Layer 19: the program's and the document's answers; what every program answers that is one. -/
import Derived.Test.YtpjppnomfponfaaRefCollect
namespace Go.Proofs.Ytpjppnomfponfaa
open Go.RowKit
set_option linter.unusedSimpArgs false
set_option linter.unusedVariables false
def goodC (n : Nat) (I : Nat → Item) (room : Int) : Bool := mayI n I && inB 0 4194304 room
def colE (n : Nat) (I : Nat → Item) (room : Int) : Int := if goodC n I room = true then 0 else 1900
def colM (n : Nat) (I : Nat → Item) (room : Int) (wrap : Bool) : Nat := if goodC n I room = true then (linC (outS I) room wrap n).m else 0
theorem goodC_true {n : Nat} {I : Nat → Item} {room : Int} : goodC n I room = true ↔ mayI n I = true ∧ inB 0 4194304 room = true := by unfold goodC; rw [Bool.and_eq_true]
/-- the answer of Collect -/
def ColPost (w : World) (n : Nat) (I : Nat → Item) (room : Int) (wrap : Bool) (e : Ending) (w' : World) : Prop :=
  ∃ u, e = .returned (.tuple #[u, .int .i64 (colE n I room)]) ∧ NewOnes 3 w w' u (colM n I room wrap) (linC (outS I) room wrap n).Z ∧ Kept w w'
theorem colPost_no {w w' : World} {n : Nat} {I : Nat → Item} {room : Int} {wrap : Bool} (h : goodC n I room = false) (k : Kept w w') : ColPost w n I room wrap (.returned (.tuple #[.slice none 0 0, .int .i64 1900])) w' :=
  ⟨_, by unfold colE; rw [h]; rfl, by unfold colM; rw [h]; exact .inl ⟨rfl, none, 0, rfl, by decide⟩, k⟩
theorem colPost_yes {w w' : World} {n : Nat} {I : Nat → Item} {room : Int} {wrap : Bool} {u : Value} (h : goodC n I room = true) (ho : NewOnes 3 w w' u (linC (outS I) room wrap n).m (linC (outS I) room wrap n).Z) (k : Kept w w') :
    ColPost w n I room wrap (.returned (.tuple #[u, .int .i64 0])) w' :=
  ⟨_, by unfold colE; rw [h]; rfl, by unfold colM; rw [h]; exact ho, k⟩
theorem NewOnes.earlier {t : TypeId} {a c w : World} {v : Value} {m : Nat} {Z : Nat → Int} (hv : NewOnes t a w v m Z) (k : Kept c a) : NewOnes t c w v m Z := by
  rcases hv with h0 | ⟨b, cap, cur, h1, h2, h3, h4, h5, h6, h7, h8⟩
  · exact .inl h0
  · exact .inr ⟨b, cap, cur, h1, h2, h3, h4, Nat.le_trans k.size h5, h6, h7, h8⟩
theorem rowCollect_any (v : Value) (n : Nat) (I : Nat → Item) (room : Int) (wrap : Bool) (w : World) (h : ItV w v n I) (hm : mayI n I = true) :
    Calls Try.prog 34 #[v, .int .i64 room, .bool wrap] w fun e w' => ∃ u, e = .returned u ∧ NewOnes 3 w w' u (linC (outS I) room wrap n).m (linC (outS I) room wrap n).Z ∧ Kept w w' := by
  rcases h with ⟨o, cap, rfl, rfl⟩ | ⟨b, off, cap, rfl, hi⟩
  · exact (rowCollect_none o cap (outS I) room wrap w).mono fun e w' ⟨u, he, ho, hk⟩ => ⟨u, he, newOnes_of ho, hk⟩
  · exact (rowCollect_some b off n cap I room wrap w hi (mayI_true.1 hm).1 (mayI_true.1 hm).2).mono fun e w' ⟨u, he, ho, hk⟩ => ⟨u, he, newOnes_of ho, hk⟩
theorem flexCollect_any (v : Value) (n : Nat) (I : Nat → Item) (room : Int) (wrap : Bool) (w : World) (h : ItV w v n I) (hn : n ≤ 4611686018427387904) :
    Calls Try.prog 18 #[v, .int .i64 room, .bool wrap] w (ColPost w n I room wrap) := by
  cases h1 : mayI n I with
  | false =>
    have Hs := Lib.hid (show goodC n I room = false by unfold goodC; rw [h1]; rfl)
    have hk : Kept w w := Kept.refl w
    go_enter Try.func18, Try.ntmps18
    go_wp2_with fail
    refine (flexMay_any _ n I _ (h.kept hk) hn).mono ?_
    rintro e w1 ⟨rfl, hn⟩
    replace hk := hk.trans hn
    clear hn
    go_wp2
    go_ret2
    exact colPost_no Hs.out hk
  | true =>
    have HC := Lib.hid (fun wx (hx : ItV wx v n I) => rowCollect_any v n I room wrap wx hx h1)
    cases h2 : inB 0 4194304 room with
    | false =>
      have Hs := Lib.hid (show goodC n I room = false by unfold goodC; rw [h1, h2]; rfl)
      have hk : Kept w w := Kept.refl w
      go_enter Try.func18, Try.ntmps18
      go_wp2_with fail
      refine (flexMay_any _ n I _ (h.kept hk) hn).mono ?_
      rintro e w1 ⟨rfl, hn⟩
      replace hk := hk.trans hn
      clear hn
      go_wp2_with fail
      refine with_boxes1 ?_
      intro X hX q
      have hsz := hk.size
      replace hk := hk.trans hX
      clear hX
      replace q_l := q.lt
      replace q_0 := q.at 0 _ rfl
      refine (each1_any _ _ _ _ _ q_0).mono ?_
      rintro e w1 ⟨rfl, rfl⟩
      go_wp2
      go_ret2
      exact colPost_no Hs.out hk
    | true =>
      have Hs := Lib.hid (show goodC n I room = true by unfold goodC; rw [h1, h2]; rfl)
      have hk : Kept w w := Kept.refl w
      go_enter Try.func18, Try.ntmps18
      go_wp2_with fail
      refine (flexMay_any _ n I _ (h.kept hk) hn).mono ?_
      rintro e w1 ⟨rfl, hn⟩
      replace hk := hk.trans hn
      clear hn
      go_wp2_with fail
      refine with_boxes1 ?_
      intro X hX q
      have hsz := hk.size
      replace hk := hk.trans hX
      clear hX
      replace q_l := q.lt
      replace q_0 := q.at 0 _ rfl
      refine (each1_any _ _ _ _ _ q_0).mono ?_
      rintro e w1 ⟨rfl, rfl⟩
      clear q
      clear q_l q_0
      go_wp2_with fail
      refine (HC.out _ (h.kept hk)).mono ?_
      rintro e w2 ⟨u, rfl, hu, hn2⟩
      replace hu := hu.earlier hk
      replace hk := hk.trans hn2
      go_wp2
      go_ret2
      exact colPost_yes Hs.out hu hk
theorem refCollect_any (v : Value) (n : Nat) (I : Nat → Item) (room : Int) (wrap : Bool) (w : World) (h : ItV w v n I) (hn : n ≤ 4611686018427387904) :
    Calls Try.prog 19 #[v, .int .i64 room, .bool wrap] w (ColPost w n I room wrap) := by
  cases h1 : mayI n I with
  | false =>
    have Hs := Lib.hid (show goodC n I room = false by unfold goodC; rw [h1]; rfl)
    have hk : Kept w w := Kept.refl w
    go_enter Try.func19, Try.ntmps19
    go_wp2_with fail
    refine (refItemsMay_any _ n I _ (h.kept hk) hn).mono ?_
    rintro e w1 ⟨rfl, hn⟩
    replace hk := hk.trans hn
    clear hn
    go_wp2
    go_ret2
    exact colPost_no Hs.out hk
  | true =>
    cases h2 : inB 0 4194304 room with
    | false =>
      have Hs := Lib.hid (show goodC n I room = false by unfold goodC; rw [h1, h2]; rfl)
      have hk : Kept w w := Kept.refl w
      go_enter Try.func19, Try.ntmps19
      go_wp2_with fail
      refine (refItemsMay_any _ n I _ (h.kept hk) hn).mono ?_
      rintro e w1 ⟨rfl, hn⟩
      replace hk := hk.trans hn
      clear hn
      go_wp2_with fail
      refine (room11_any _ _).mono ?_
      rintro e w1 ⟨rfl, rfl⟩
      go_wp2
      go_ret2
      exact colPost_no Hs.out hk
    | true =>
      have hg : goodC n I room = true := by unfold goodC; rw [h1, h2]; rfl
      rcases h with ⟨o, cap, rfl, rfl⟩ | ⟨b, off, cap, rfl, hi⟩
      · have Hs := Lib.hid hg
        clear hg
        have hk : Kept w w := Kept.refl w
        go_enter Try.func19, Try.ntmps19
        go_wp2_with fail
        refine (refItemsMay_any _ 0 I _ (.inl ⟨o, cap, rfl, rfl⟩) hn).mono ?_
        rintro e w1 ⟨rfl, hn⟩
        replace hk := hk.trans hn
        clear hn
        go_wp2_with fail
        refine (room11_any _ _).mono ?_
        rintro e w1 ⟨rfl, rfl⟩
        go_wp2
        refine wp_loop_rounds 1 ?_
        rw [rounds_succ]
        go_wp2
        go_ret2
        exact colPost_yes Hs.out (newOnes_of (World.ownsRow_nil _ _ _ _)) hk
      · exact (refCollect_ok b off n cap I room wrap w hi (mayI_true.1 h1).1 (mayI_true.1 h1).2 h2).mono fun e w' ⟨u, he, ho, hk⟩ => by rw [he]; exact colPost_yes hg (newOnes_of ho) hk
/-- rows of numbers written out -/
def zL (l : List (List Int)) (i j : Nat) : Int := (l.getD i []).getD j 0
theorem iv_same {w : World} {v : Value} {n : Nat} {Z Y : Nat → Int} (h : IV w v n Z) (e : ∀ i, i < n → Z i = Y i) : IV w v n Y := by
  rcases h with h | ⟨b, off, cap, h1, h2, h3, h4⟩
  · exact .inl h
  · exact .inr ⟨b, off, cap, h1, h2, h3, fun i hi => by rw [← e i hi]; exact h4 i hi⟩
end Go.Proofs.Ytpjppnomfponfaa
