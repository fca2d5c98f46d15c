/- Layer 18: the document's Flow, of any words. -/
import Derived.Test.YtkdidhhilcamkaaRefFlow
namespace Go.Proofs.Ytkdidhhilcamkaa
open Go.RowKit Go.Deep
set_option linter.unusedSimpArgs false
set_option linter.unusedVariables false
set_option maxHeartbeats 4000000 in
theorem refFlow_any (vw : Value) (m : Nat) (S : Nat → ByteArray) (A G : Nat → Int) (how : Int) (v : Value) (n : Nat) (Z : Nat → Nat → Int) (room y : Int) (w : World) (hw : WV w vw m S A G) (hv : RV 5 w v n (intC Z)) (hmn : m ≤ 4398046510976) (hn : n ≤ 4611686018427387904) :
    Calls Try.prog 22 #[vw, .int .i64 how, v, .int .i64 room, .int .i64 y] w (FlowAll ⟨excOf Z, n, room, A, m, how, y⟩ w) := by
  have hb : flowB ⟨excOf Z, n, room, A, m, how, y⟩ = (mayW m A && inB 0 3 how && mayX room n (excOf Z) && inB 0 4194304 y) := rfl
  cases h1 : mayW m A with
  | false =>
    have Hs := Lib.hid (hb.trans (by rw [h1]; rfl) : flowB ⟨excOf Z, n, room, A, m, how, y⟩ = false)
    clear hb
    have hk : Kept w w := Kept.refl w
    go_enter Try.func22, Try.ntmps22
    go_wp2_with fail
    refine (refLMay_any _ m S A G _ (hw.kept hk) hmn).mono ?_
    rintro e w1 ⟨rfl, hn⟩
    replace hk := hk.trans hn
    clear hn
    go_wp2
    go_ret3
    exact flowAll_no Hs.out hk
  | true =>
    cases h2 : inB 0 3 how with
    | false =>
      have Hs := Lib.hid (hb.trans (by rw [h2, Bool.and_false]; rfl) : flowB ⟨excOf Z, n, room, A, m, how, y⟩ = false)
      clear hb
      have hk : Kept w w := Kept.refl w
      go_enter Try.func22, Try.ntmps22
      go_wp2_with fail
      refine (refLMay_any _ m S A G _ (hw.kept hk) hmn).mono ?_
      rintro e w1 ⟨rfl, hn⟩
      replace hk := hk.trans hn
      clear hn
      go_wp2_with fail
      refine (upTo11_any _ _ _).mono ?_
      rintro e w1 ⟨rfl, rfl⟩
      go_wp2
      go_ret3
      exact flowAll_no Hs.out hk
    | true =>
      cases h3 : mayX room n (excOf Z) with
      | false =>
        have Hs := Lib.hid (hb.trans (by rw [h3, Bool.and_false]; rfl) : flowB ⟨excOf Z, n, room, A, m, how, y⟩ = false)
        clear hb
        have hk : Kept w w := Kept.refl w
        go_enter Try.func22, Try.ntmps22
        go_wp2_with fail
        refine (refLMay_any _ m S A G _ (hw.kept hk) hmn).mono ?_
        rintro e w1 ⟨rfl, hn⟩
        replace hk := hk.trans hn
        clear hn
        go_wp2_with fail
        refine (upTo11_any _ _ _).mono ?_
        rintro e w1 ⟨rfl, rfl⟩
        go_wp2_with fail
        refine (refBandsMay_any _ n Z room _ (hv.kept hk) hn).mono ?_
        rintro e w1 ⟨rfl, hn⟩
        replace hk := hk.trans hn
        clear hn
        go_wp2
        go_ret3
        exact flowAll_no Hs.out hk
      | true =>
        cases h4 : inB 0 4194304 y with
        | false =>
          have Hs := Lib.hid (hb.trans (by rw [h4, Bool.and_false]) : flowB ⟨excOf Z, n, room, A, m, how, y⟩ = false)
          clear hb
          have hk : Kept w w := Kept.refl w
          go_enter Try.func22, Try.ntmps22
          go_wp2_with fail
          refine (refLMay_any _ m S A G _ (hw.kept hk) hmn).mono ?_
          rintro e w1 ⟨rfl, hn⟩
          replace hk := hk.trans hn
          clear hn
          go_wp2_with fail
          refine (upTo11_any _ _ _).mono ?_
          rintro e w1 ⟨rfl, rfl⟩
          go_wp2_with fail
          refine (refBandsMay_any _ n Z room _ (hv.kept hk) hn).mono ?_
          rintro e w1 ⟨rfl, hn⟩
          replace hk := hk.trans hn
          clear hn
          go_wp2_with fail
          refine (room11_any _ _).mono ?_
          rintro e w1 ⟨rfl, rfl⟩
          go_wp2
          go_ret3
          exact flowAll_no Hs.out hk
        | true =>
          have Hs := (hb.trans (by rw [h1, h2, h3, h4]; rfl) : flowB ⟨excOf Z, n, room, A, m, how, y⟩ = true)
          exact refFlow_good vw m S A G how v n Z room y w hw hv _ rfl Hs hmn hn
end Go.Proofs.Ytkdidhhilcamkaa
