/- Layer 4: the width of a text that goes on by one byte. -/
import Derived.Test.YtkonpnaedniceaaGlyph
namespace Go.Proofs.Ytkonpnaedniceaa
open Go.RowKit
set_option linter.unusedSimpArgs false
set_option linter.unusedVariables false
/-- what a rune's bytes come to: the first byte; which of the next three go on with it; these three -/
def dec (b0 : Nat) (c1 c2 c3 : Bool) (a1 a2 a3 : Nat) : Nat × Nat :=
  if b0 < 0x80 then (b0, 1)
  else if b0 / 32 == 6 && c1 then
    let c := (b0 % 32) * 64 + a1 % 64
    if c ≥ 0x80 then (c, 2) else (Utf8.runeError, 1)
  else if b0 / 16 == 14 && c1 && c2 then
    let c := (b0 % 16) * 4096 + (a1 % 64) * 64 + a2 % 64
    if c ≥ 0x800 && Utf8.valid c then (c, 3) else (Utf8.runeError, 1)
  else if b0 / 8 == 30 && c1 && c2 && c3 then
    let c := (b0 % 8) * 262144 + (a1 % 64) * 4096 + (a2 % 64) * 64 + a3 % 64
    if c ≥ 0x10000 && Utf8.valid c then (c, 4) else (Utf8.runeError, 1)
  else (Utf8.runeError, 1)
def byteAt (s : ByteArray) (i : Nat) : Nat := (s.get! i).toNat
def contAt (s : ByteArray) (i : Nat) : Bool := i < s.size && byteAt s i / 64 == 2
theorem decode_dec (s : ByteArray) (i : Nat) : Utf8.decode s i = dec (byteAt s i) (contAt s (i + 1)) (contAt s (i + 2)) (contAt s (i + 3)) (byteAt s (i + 1)) (byteAt s (i + 2)) (byteAt s (i + 3)) := rfl
theorem dec_same {b0 : Nat} {c1 c2 c3 d1 d2 d3 : Bool} {a1 a2 a3 e1 e2 e3 : Nat} (h1 : c1 = d1) (h1' : c1 = true → a1 = e1) (h2 : c1 = true → c2 = d2) (h2' : c1 = true → c2 = true → a2 = e2)
    (h3 : c1 = true → c2 = true → c3 = d3) (h3' : c1 = true → c2 = true → c3 = true → a3 = e3) : dec b0 c1 c2 c3 a1 a2 a3 = dec b0 d1 d2 d3 e1 e2 e3 := by
  subst h1
  cases c1
  · simp [dec]
  · obtain rfl := h1' rfl
    obtain rfl := h2 rfl
    cases c2
    · simp [dec]
    · obtain rfl := h2' rfl rfl
      obtain rfl := h3 rfl rfl
      cases c3
      · simp [dec]
      · rw [h3' rfl rfl rfl]
theorem byteAt_lt {s : ByteArray} {c : UInt8} {i : Nat} (h : i < s.size) : byteAt (s.push c) i = byteAt s i := by
  unfold byteAt
  have h' : i < s.data.size := h
  show ((s.data.push c)[i]!).toNat = (s.data[i]!).toNat
  rw [getElem!_pos (s.data.push c) i (by simp; omega), getElem!_pos s.data i h', Array.getElem_push_lt h']
theorem byteAt_eq {s : ByteArray} {c : UInt8} : byteAt (s.push c) s.size = c.toNat := by
  unfold byteAt
  show ((s.data.push c)[s.data.size]!).toNat = c.toNat
  rw [getElem!_pos (s.data.push c) _ (by simp), Array.getElem_push_eq]
theorem size_push' {s : ByteArray} {c : UInt8} : (s.push c).size = s.size + 1 := by
  show (s.data.push c).size = s.data.size + 1
  simp
theorem contAt_push {s : ByteArray} {c : UInt8} (hc : c.toNat / 64 ≠ 2) (i : Nat) : contAt (s.push c) i = contAt s i := by
  unfold contAt
  rcases Nat.lt_trichotomy i s.size with h | h | h
  · rw [byteAt_lt h, size_push']; simp [h]; omega
  · subst h; rw [byteAt_eq, size_push']; simp [hc]
  · rw [size_push']; simp [show ¬ i < s.size + 1 by omega, show ¬ i < s.size by omega]
theorem contAt_lt {s : ByteArray} {i : Nat} (h : contAt s i = true) : i < s.size := by unfold contAt at h; simp at h; exact h.1
theorem decode_push {s : ByteArray} {c : UInt8} (hc : c.toNat / 64 ≠ 2) {i : Nat} (h : i < s.size) : Utf8.decode (s.push c) i = Utf8.decode s i := by
  rw [decode_dec, decode_dec, byteAt_lt h]
  refine dec_same (contAt_push hc _) (fun h1 => byteAt_lt ?_) (fun _ => contAt_push hc _) (fun _ h2 => byteAt_lt ?_) (fun _ _ => contAt_push hc _) (fun _ _ h3 => byteAt_lt ?_)
  · rw [contAt_push hc] at h1; exact contAt_lt h1
  · rw [contAt_push hc] at h2; exact contAt_lt h2
  · rw [contAt_push hc] at h3; exact contAt_lt h3
theorem decode_le {s : ByteArray} {i : Nat} (h : i < s.size) : i + (Utf8.decode s i).2 ≤ s.size := by
  rw [decode_dec]
  unfold dec
  by_cases h0 : byteAt s i < 0x80
  · rw [if_pos h0]; show i + 1 ≤ s.size; omega
  rw [if_neg h0]
  by_cases h1 : (byteAt s i / 32 == 6 && contAt s (i + 1)) = true
  · rw [if_pos h1]
    rw [Bool.and_eq_true] at h1
    have := contAt_lt h1.2
    dsimp only
    split
    · show i + 2 ≤ s.size; omega
    · show i + 1 ≤ s.size; omega
  rw [if_neg h1]
  by_cases h2 : (byteAt s i / 16 == 14 && contAt s (i + 1) && contAt s (i + 2)) = true
  · rw [if_pos h2]
    rw [Bool.and_eq_true] at h2
    have := contAt_lt h2.2
    dsimp only
    split
    · show i + 3 ≤ s.size; omega
    · show i + 1 ≤ s.size; omega
  rw [if_neg h2]
  by_cases h3 : (byteAt s i / 8 == 30 && contAt s (i + 1) && contAt s (i + 2) && contAt s (i + 3)) = true
  · rw [if_pos h3]
    rw [Bool.and_eq_true] at h3
    have := contAt_lt h3.2
    dsimp only
    split
    · show i + 4 ≤ s.size; omega
    · show i + 1 ≤ s.size; omega
  rw [if_neg h3]
  show i + 1 ≤ s.size; omega
theorem widthF_step {s : ByteArray} {b pos : Nat} {acc : Int} (h : pos < s.size) : widthF s (b + 1) pos acc = widthF s b (pos + (Utf8.decode s pos).2) (wrap64 (acc + advS (Utf8.decode s pos).1)) := if_pos h
theorem widthF_done {s : ByteArray} {b pos : Nat} {acc : Int} (h : s.size ≤ pos) : widthF s b pos acc = acc := width_end s b pos acc (by omega)
theorem decode_last {s : ByteArray} {c : UInt8} : (Utf8.decode (s.push c) s.size).2 = 1 ∧ (Utf8.decode (s.push c) s.size).1 = if c.toNat < 128 then c.toNat else 65533 := by
  have h1 : contAt (s.push c) (s.size + 1) = false := by unfold contAt; rw [size_push']; simp
  rw [decode_dec, byteAt_eq, h1]
  unfold dec
  split
  · exact ⟨rfl, rfl⟩
  · simp [Utf8.runeError]
theorem widthF_push {s : ByteArray} {c : UInt8} (hc : c.toNat / 64 ≠ 2) : ∀ b b' pos acc, s.size ≤ pos + b → s.size + 1 ≤ pos + b' → pos ≤ s.size →
    widthF (s.push c) b' pos acc = wrap64 (widthF s b pos acc + advS (if c.toNat < 128 then c.toNat else 65533)) := by
  have last : ∀ n acc, widthF (s.push c) (n + 1) s.size acc = wrap64 (acc + advS (if c.toNat < 128 then c.toNat else 65533)) := by
    intro n acc
    obtain ⟨d2, d1⟩ := decode_last (s := s) (c := c)
    have hs := size_push' (s := s) (c := c)
    rw [widthF_step (by omega), d2, d1, widthF_done (by omega)]
    split <;> rfl
  intro b
  induction b with
  | zero =>
    intro b' pos acc hb hb' hp
    obtain rfl : pos = s.size := by omega
    obtain ⟨n, rfl⟩ : ∃ n, b' = n + 1 := ⟨b' - 1, by omega⟩
    rw [last, widthF_done (by omega)]
  | succ b ih =>
    intro b' pos acc hb hb' hp
    obtain ⟨n, rfl⟩ : ∃ n, b' = n + 1 := ⟨b' - 1, by omega⟩
    by_cases hlt : pos < s.size
    · have h1 := width_pos s pos hlt
      have h2 := decode_le hlt
      have hs := size_push' (s := s) (c := c)
      rw [widthF_step (s := s.push c) (by omega), decode_push hc hlt, ih _ _ _ (by omega) (by omega) h2, widthF_step (s := s) hlt]
    · obtain rfl : pos = s.size := by omega
      rw [last, widthF_done (by omega)]
theorem width_push {s : ByteArray} {c : UInt8} (hc : c.toNat / 64 ≠ 2) : widthS (s.push c) = wrap64 (widthS s + advS (if c.toNat < 128 then c.toNat else 65533)) := by
  unfold widthS
  rw [size_push']
  exact widthF_push hc _ _ _ _ (by omega) (by omega) (by omega)
end Go.Proofs.Ytkonpnaedniceaa
