/- Layer 20: a line of items: what is free; by what they share. -/
import Derived.Test.YticnfoppdgeioaaShareOut
namespace Go.Proofs.Yticnfoppdgeioaa
open Go.RowKit
set_option linter.unusedSimpArgs false
set_option linter.unusedVariables false
/-- a line as it lies -/
structure LineV (w : World) (L bs bf : Nat) (sl : Option Addr) (n cap : Nat) (room : Int) (g : Bool) (I : Nat → Item) (S : Nat → Int) (F : Nat → Bool) : Prop where
  it : 0 < n → ∃ b off, sl = some ⟨b, off, none⟩ ∧ ItemsAt w b off n I
  c0 : w.cell? ⟨L, 0, none⟩ = some (.slice sl n cap)
  c1 : w.cell? ⟨L, 1, none⟩ = some (.int .i64 room)
  c2 : w.cell? ⟨L, 2, none⟩ = some (.bool g)
  c3 : w.cell? ⟨L, 3, none⟩ = some (.slice (some ⟨bs, 0, none⟩) n n)
  c4 : w.cell? ⟨L, 4, none⟩ = some (.slice (some ⟨bf, 0, none⟩) n n)
  s : ∀ i, i < n → w.cell? ⟨bs, i, none⟩ = some (.int .i64 (S i))
  f : ∀ i, i < n → w.cell? ⟨bf, i, none⟩ = some (.bool (F i))
theorem cell_kept {w w' : World} {a : Addr} {v : Value} (k : Kept w w') (h : w.cell? a = some v) : w'.cell? a = some v := (k.cell (World.block_lt_of_cell? w _ h)).trans h
theorem LineV.kept {w w' : World} {L bs bf : Nat} {sl : Option Addr} {n cap : Nat} {room : Int} {g : Bool} {I : Nat → Item} {S : Nat → Int} {F : Nat → Bool} (h : LineV w L bs bf sl n cap room g I S F) (k : Kept w w') : LineV w' L bs bf sl n cap room g I S F :=
  ⟨fun hn => by obtain ⟨b, off, e, hi⟩ := h.it hn; exact ⟨b, off, e, hi.kept k⟩, cell_kept k h.c0, cell_kept k h.c1, cell_kept k h.c2, cell_kept k h.c3, cell_kept k h.c4, fun i hi => cell_kept k (h.s i hi), fun i hi => cell_kept k (h.f i hi)⟩
set_option maxHeartbeats 2000000 in
theorem lineFree_any (L bs bf : Nat) (sl : Option Addr) (n cap : Nat) (room : Int) (g : Bool) (I : Nat → Item) (S : Nat → Int) (F : Nat → Bool) (w : World) (h : LineV w L bs bf sl n cap room g I S F) (hI : ∀ i, i < n → itemB (I i) = true) (hS : OkS g S n) (hn : n ≤ 32) (hr : 0 ≤ room ∧ room ≤ 4194304) :
    Calls Try.prog 39 #[.pointer (some ⟨L, 0, none⟩)] w fun e w' => e = .returned (.int .i64 (freeS g I S F room n)) ∧ Kept w w' := by
  have HI := Lib.hid hI
  have HS := Lib.hid hS
  have HB := Lib.hid (fun k (hk : k ≤ n) => sumW_bd (n := k) (W := ocS I S F) (fun i hi => ocS_bd hI hS i (Nat.lt_of_lt_of_le hi hk)))
  have HM : (4194304 : Int) ≤ mostS g ∧ mostS g ≤ 536870912 := by unfold mostS; split <;> omega
  have HF := Lib.hid (show freeS g I S F room n = max 0 (if g = true then room - sumW (ocS I S F) n else -(room - sumW (ocS I S F) n)) from rfl)
  have H := Lib.hid h
  obtain ⟨M, hM⟩ : ∃ M, mostS g = M := ⟨_, rfl⟩
  rw [hM] at HB HM
  have c0 := h.c0
  have c1 := h.c1
  clear hI hM h
  go_enter Try.func39, Try.ntmps39
  go_wp2
  go_loopw [3, 4, 5, 15] (fun v _ _ i wx => ∃ k : Nat, k ≤ n ∧ i = .int .i64 k ∧ v = .int .i64 (room - sumW (ocS I S F) k) ∧ Kept w wx) (fun _ _ _ i _ => n - (intOf i).toNat)
  case atStart => exact ⟨0, Nat.zero_le _, rfl, by simp [sumW], Kept.refl _⟩
  case round =>
    obtain ⟨k, hkn, rfl, rfl, hk⟩ := hrel
    have HH := H.out.kept hk
    have b1 := HB.out k hkn
    have hb1 : -268435456 ≤ sumW (ocS I S F) k ∧ sumW (ocS I S F) k ≤ 34359738368 := by
      have : M * (k : Int) ≤ 536870912 * 32 := Int.mul_le_mul HM.2 (by omega) (by omega) (by decide)
      rw [Int.add_mul] at b1
      omega
    clear c0 c1 b1
    by_cases hlt : k < n
    · have hi1 : (k : Int) < (n : Int) := by omega
      obtain ⟨b, off, rfl, hit⟩ := HH.it (by omega)
      have c0 := hit.base k hlt
      have c1 := hit.min k hlt
      have c2 := hit.max k hlt
      have c3 := hit.grow k hlt
      have c4 := hit.shrink k hlt
      have c5 := hit.extra k hlt
      have hx := itemB_parts (HI.out k hlt)
      have hs := HS.out k hlt
      have d4 := HH.c4
      have d3 := HH.c3
      have s0 := HH.s k hlt
      have f0 := HH.f k hlt
      have e1 := Lib.hid (show sumW (ocS I S F) (k + 1) = sumW (ocS I S F) k + ((I k).extra + if F k = true then S k else (I k).base) from rfl)
      have hs2 : 0 ≤ S k ∧ S k ≤ 536870912 := ⟨hs.1, Int.le_trans hs.2 (by unfold mostS; split <;> omega)⟩
      have lL := World.block_lt_of_cell? _ _ d4
      have lS := World.block_lt_of_cell? _ _ s0
      have lF := World.block_lt_of_cell? _ _ f0
      have lB := World.block_lt_of_cell? _ _ c0
      clear hs HH hit
      generalize sumW (ocS I S F) k = p at *
      generalize S k = s at *
      generalize I k = y at *
      cases hF : F k with
      | true =>
        rw [hF] at f0 e1
        clear hF
        rw [if_pos rfl] at e1
        go_wp2
        exact ⟨⟨k + 1, by omega, by first | rfl | go_num, by rw [e1.out]; congr 1; omega, hk.alloc _⟩, by first | (simp [intOf]; done) | (simp [intOf]; omega)⟩
      | false =>
        rw [hF] at f0 e1
        clear hF
        rw [if_neg (by decide)] at e1
        go_wp2
        exact ⟨⟨k + 1, by omega, by first | rfl | go_num, by rw [e1.out]; congr 1; omega, hk.alloc _⟩, by first | (simp [intOf]; done) | (simp [intOf]; omega)⟩
    · obtain rfl : k = n := by omega
      have c2 := HH.c2
      clear HH
      generalize sumW (ocS I S F) k = p at *
      cases g with
      | true =>
        rw [if_pos rfl] at HF
        go_wp2
        all_goals
          go_ret
          exact ⟨ret_int (by rw [HF.out]; omega), hk⟩
      | false =>
        rw [if_neg (by decide)] at HF
        go_wp2
        all_goals
          go_ret
          exact ⟨ret_int (by rw [HF.out]; omega), hk⟩
end Go.Proofs.Yticnfoppdgeioaa
