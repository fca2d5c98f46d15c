/- Layer 20: a line of items: by what they share. -/
import Derived.Test.YticnfoppdgeioaaLineFree
namespace Go.Proofs.Yticnfoppdgeioaa
open Go.RowKit
set_option linter.unusedSimpArgs false
set_option linter.unusedVariables false
theorem upto_step {cs : Array Value} {n k : Nat} {Z : Nat → Int} (hs : cs.size = n) (hk : k < n) (h : ∀ i, i < n → cs[i]? = some (.int .i64 (if i < k then Z i else 0))) :
    (Z k = 0 → ∀ i, i < n → cs[i]? = some (.int .i64 (if i < k + 1 then Z i else 0))) ∧ ∀ i, i < n → (cs.setIfInBounds k (.int .i64 (Z k)))[i]? = some (.int .i64 (if i < k + 1 then Z i else 0)) := by
  refine ⟨fun h0 i hi => ?_, fun i hi => ?_⟩
  · rw [h i hi]
    rcases Nat.lt_trichotomy i k with h1 | h1 | h1
    · rw [if_pos h1, if_pos (by omega)]
    · subst h1; rw [if_neg (by omega), if_pos (by omega), h0]
    · rw [if_neg (by omega), if_neg (by omega)]
  · rcases Nat.lt_trichotomy i k with h1 | h1 | h1
    · rw [Array.getElem?_setIfInBounds_ne (by omega), h i hi, if_pos h1, if_pos (by omega)]
    · subst h1; rw [Array.getElem?_setIfInBounds_self_of_lt (by omega), if_pos (by omega)]
    · rw [Array.getElem?_setIfInBounds_ne (by omega), h i hi, if_neg (by omega), if_neg (by omega)]
set_option maxHeartbeats 2000000 in
theorem lineWeights_any (L bs bf : Nat) (sl : Option Addr) (n cap : Nat) (room : Int) (g : Bool) (I : Nat → Item) (S : Nat → Int) (F : Nat → Bool) (w : World) (h : LineV w L bs bf sl n cap room g I S F) (hI : ∀ i, i < n → itemB (I i) = true) (hn : n ≤ 32) :
    Calls Try.prog 40 #[.pointer (some ⟨L, 0, none⟩)] w fun e w' => ∃ u, e = .returned u ∧ Made 3 w w' u n (intZ (wtS g I F)) ∧ Kept w w' := by
  have hmk := run_make_row' (P := Try.prog) 24 3 (.int .i64 0) 8 Try.underlying24 intInfo1 rfl .i64 .i64 n (by omega) (by omega)
  have HI := Lib.hid hI
  have H := Lib.hid h
  have c0 := h.c0
  have lL := World.block_lt_of_cell? _ _ c0
  clear hI h
  go_enter Try.func40, Try.ntmps40
  go_wp2
  clear hmk
  have hmz := made_zero n
  have g0 := Own.new w (madeCells #[.int .i64 0] n) 3
  have hms := size_madeCells #[Value.int .i64 0] n
  have hk0 : Kept w (w.alloc (.cells (madeCells #[.int .i64 0] n) 3)) := (Kept.refl w).alloc _
  generalize (madeCells #[Value.int .i64 0] n) = cur at *
  generalize w.alloc (.cells cur 3) = W1 at *
  go_loopw [17] (fun i wx => ∃ (k : Nat) (cs : Array Value), k ≤ n ∧ i = .int .i64 k ∧ Kept w wx ∧ Own wx w.heap.size 3 cs ∧ cs.size = n ∧ ∀ i, i < n → cs[i]? = some (.int .i64 (if i < k then wtS g I F i else 0))) (fun i _ => n - (intOf i).toNat)
  case atStart => exact ⟨0, cur, Nat.zero_le _, rfl, hk0, g0, hms, fun i hi => by rw [if_neg (by omega)]; exact hmz i hi⟩
  case round =>
    clear hk0 g0 hms hmz c0
    obtain ⟨k, cs, hkn, rfl, hk, g0, hcs, hc⟩ := hrel
    have HH := H.out.kept hk
    by_cases hlt : k < n
    · have hi1 : (k : Int) < (n : Int) := by omega
      obtain ⟨b, off, rfl, hit⟩ := HH.it (by omega)
      have c0 := hit.base k hlt
      have c1 := hit.min k hlt
      have c2 := hit.max k hlt
      have c3 := hit.grow k hlt
      have c4 := hit.shrink k hlt
      have c5 := hit.extra k hlt
      have hx := itemB_parts (HI.out k hlt)
      have d4 := HH.c4
      have d2 := HH.c2
      have f0 := HH.f k hlt
      have lF := World.block_lt_of_cell? _ _ f0
      have lB := World.block_lt_of_cell? _ _ c0
      have lL2 := World.block_lt_of_cell? _ _ d4
      have gl := g0.lt
      have gc : wr.cell? ⟨w.heap.size, k, none⟩ = some (.int .i64 0) := (g0.cell k).trans (by rw [hc k hlt, if_neg (by omega)])
      have gf := g0.free k
      obtain ⟨t1, t2⟩ := upto_step hcs hlt hc
      have HT1 := Lib.hid t1
      have HT2 := Lib.hid t2
      have G := Lib.hid g0
      have HS := Lib.hid hcs
      have hw := wtS_bd (g := g) (F := F) HI.out k hlt
      have hwt : wtS g I F k = if F k = true then 0 else if g = true then (I k).grow else (I k).shrink * (I k).base := rfl
      clear HH hit t1 t2 g0 hc hcs
      generalize wtS g I F k = z at *
      generalize I k = y at *
      cases hF : F k with
      | true =>
        rw [hF] at f0 hwt
        clear hF
        rw [if_pos rfl] at hwt
        replace hwt := Lib.hid hwt
        go_wp2
        exact ⟨⟨k + 1, cs, by omega, by first | rfl | go_num, hk.alloc _, G.out.alloc _, HS.out, HT1.out hwt.out⟩, by first | (simp [intOf]; done) | (simp [intOf]; omega)⟩
      | false =>
        rw [hF] at f0 hwt
        clear hF
        rw [if_neg (by decide)] at hwt
        cases g with
        | true =>
          rw [if_pos rfl] at hwt
          replace hwt := Lib.hid hwt
          go_wp2
          exact ⟨⟨k + 1, _, by omega, by first | rfl | go_num, (hk.set (Nat.le_refl _) _).alloc _, (G.out.set k _).alloc _, by rw [Array.size_setIfInBounds]; exact HS.out, by rw [← hwt.out]; exact HT2.out⟩, by first | (simp [intOf]; done) | (simp [intOf]; omega)⟩
        | false =>
          rw [if_neg (by decide)] at hwt
          rw [hwt] at hw HT2
          obtain ⟨m, hm⟩ : ∃ m, y.shrink * y.base = m := ⟨_, rfl⟩
          rw [hm] at hw HT2
          clear hwt
          go_wp2
          exact ⟨⟨k + 1, _, by omega, by first | rfl | go_num, (hk.set (Nat.le_refl _) _).alloc _, (G.out.set k _).alloc _, by rw [Array.size_setIfInBounds]; exact HS.out, HT2.out⟩, by first | (simp [intOf]; done) | (simp [intOf]; omega)⟩
    · obtain rfl : k = n := by omega
      go_wp2
      go_ret
      exact ⟨_, rfl, ⟨_, cs, rfl, Nat.le_refl _, g0, hcs, fun i hi => by rw [hc i hi, if_pos hi]; rfl⟩, hk⟩
end Go.Proofs.Yticnfoppdgeioaa
