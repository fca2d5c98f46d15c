/- Layer 10: styles; a test over four lengths in a row. -/
import Derived.Test.YtpkphohgnelajaaOddMake
import Derived.Outline
import Derived.Test.YtpkphohgnelajaaOwn
namespace Go.Proofs.Ytpkphohgnelajaa
open Go.RowKit
set_option linter.unusedSimpArgs false
set_option linter.unusedVariables false
/-- a length -/
structure Len where
  k : Int
  v : Int
/-- a style -/
structure Sty where
  inl : Len
  blk : Len
  mn : Len
  mx : Len
  m0 : Len
  m1 : Len
  m2 : Len
  m3 : Len
  p0 : Len
  p1 : Len
  p2 : Len
  p3 : Len
  bas : Len
  grow : Int
  shrink : Int
  align : Int
  items : Int
  just : Int
  wrap : Bool
abbrev Len.V (x : Len) : Value := lenV x.k x.v
/-- its cells -/
def Sty.C (s : Sty) : Array Value := #[.int .i64 s.inl.k, .int .i64 s.inl.v, .int .i64 s.blk.k, .int .i64 s.blk.v, .int .i64 s.mn.k, .int .i64 s.mn.v, .int .i64 s.mx.k, .int .i64 s.mx.v, .int .i64 s.m0.k, .int .i64 s.m0.v, .int .i64 s.m1.k, .int .i64 s.m1.v, .int .i64 s.m2.k, .int .i64 s.m2.v, .int .i64 s.m3.k, .int .i64 s.m3.v, .int .i64 s.p0.k, .int .i64 s.p0.v, .int .i64 s.p1.k, .int .i64 s.p1.v, .int .i64 s.p2.k, .int .i64 s.p2.v, .int .i64 s.p3.k, .int .i64 s.p3.v, .int .i64 s.bas.k, .int .i64 s.bas.v, .int .i64 s.grow, .int .i64 s.shrink, .int .i64 s.align, .int .i64 s.items, .int .i64 s.just, .bool s.wrap]
abbrev Sty.V (s : Sty) : Value := .agg s.C
/-- a test of lengths that lies in memory -/
structure OddAt (w : World) (p q : Nat) (least : Int) (out : List Int) : Prop where
  lp : w.cell? ⟨p, 0, none⟩ = some (.int .i64 least)
  lq : ∃ s, w.cell? ⟨q, 0, none⟩ = some s ∧ FewAt w s out
theorem OddAt.kept {w w' : World} {p q : Nat} {least : Int} {out : List Int} (h : OddAt w p q least out) (k : Kept w w') : OddAt w' p q least out :=
  ⟨(k.cell (World.block_lt_of_cell? w _ h.lp)).trans h.lp, by obtain ⟨s, h1, h2⟩ := h.lq; exact ⟨s, (k.cell (World.block_lt_of_cell? w _ h1)).trans h1, h2.kept k⟩⟩
abbrev oddF (p q : Nat) : Value := .func (.func 42) #[] #[.pointer (some ⟨p, 0, none⟩), .pointer (some ⟨q, 0, none⟩)]
def oddL (least : Int) (out : List Int) (x : Len) : Bool := oddB least out x.k x.v
theorem odd_any (least : Int) (out : List Int) (x : Len) (p q : Nat) (w : World) (h : OddAt w p q least out) :
    Calls Try.prog 42 #[x.V, .pointer (some ⟨p, 0, none⟩), .pointer (some ⟨q, 0, none⟩)] w fun e w' => e = .returned (.bool (oddL least out x)) ∧ Kept w w' := by
  obtain ⟨s, h1, h2⟩ := h.lq
  exact oddLength_any least out x.k x.v p q s w h.lp h1 h2
/-- the maker's contract -/
theorem make_any (least : Int) (s : Value) (out : List Int) (w : World) (hs : FewAt w s out) :
    Calls Try.prog 41 #[.int .i64 least, s] w fun e w' => ∃ p q, e = .returned (oddF p q) ∧ OddAt w' p q least out ∧ Kept w w' :=
  (oddMake_any least s out w hs).mono fun e w' ⟨p, q, he, h1, h2, h3, h4⟩ => ⟨p, q, he, ⟨h1, _, h2, h3⟩, h4⟩

/-- four lengths that lie in a row -/
structure Four (w : World) (b off : Nat) (x0 x1 x2 x3 : Len) : Prop where
  c0 : w.cell? ⟨b, off + 0, none⟩ = some (.int .i64 x0.k)
  c1 : w.cell? ⟨b, off + 1, none⟩ = some (.int .i64 x0.v)
  c2 : w.cell? ⟨b, off + 2, none⟩ = some (.int .i64 x1.k)
  c3 : w.cell? ⟨b, off + 3, none⟩ = some (.int .i64 x1.v)
  c4 : w.cell? ⟨b, off + 4, none⟩ = some (.int .i64 x2.k)
  c5 : w.cell? ⟨b, off + 5, none⟩ = some (.int .i64 x2.v)
  c6 : w.cell? ⟨b, off + 6, none⟩ = some (.int .i64 x3.k)
  c7 : w.cell? ⟨b, off + 7, none⟩ = some (.int .i64 x3.v)
theorem Four.kept {w w' : World} {b off : Nat} {x0 x1 x2 x3 : Len} (h : Four w b off x0 x1 x2 x3) (k : Kept w w') : Four w' b off x0 x1 x2 x3 :=
  ⟨(k.cell (World.block_lt_of_cell? w _ h.c0)).trans h.c0, (k.cell (World.block_lt_of_cell? w _ h.c1)).trans h.c1, (k.cell (World.block_lt_of_cell? w _ h.c2)).trans h.c2, (k.cell (World.block_lt_of_cell? w _ h.c3)).trans h.c3, (k.cell (World.block_lt_of_cell? w _ h.c4)).trans h.c4, (k.cell (World.block_lt_of_cell? w _ h.c5)).trans h.c5, (k.cell (World.block_lt_of_cell? w _ h.c6)).trans h.c6, (k.cell (World.block_lt_of_cell? w _ h.c7)).trans h.c7⟩

def anyOdd (least : Int) (out : List Int) (x0 x1 x2 x3 : Len) : Bool := oddL least out x0 || oddL least out x1 || oddL least out x2 || oddL least out x3
set_option maxHeartbeats 1000000 in
theorem idx8_0 (least : Int) (out : List Int) (x0 x1 x2 x3 : Len) (b p q c : Nat) (w : World) (hf : Four w b 8 x0 x1 x2 x3) (ho : OddAt w p q least out) (h0 : oddL least out x0 = true) :
    Calls Try.prog 53 #[.slice (some ⟨b, 8, none⟩) 4 c, oddF p q] w fun e w' => e = .returned (.int .i64 (0)) ∧ Kept w w' := by
  have e0 := hf.c0
  have e1 := hf.c1
  have hb : b < w.heap.size := World.block_lt_of_cell? w _ hf.c0
  simp only [Nat.add_zero, Nat.reduceAdd] at e0 e1
  have hk : Kept w w := Kept.refl w
  go_enter Try.func53, Try.ntmps53
  go_wp2
  refine wp_loop_rounds 1 ?_
  rw [rounds_succ]
  go_wp2_with fail
  refine (odd_any least out x0 _ _ _ (ho.kept hk)).mono ?_
  rintro e w1 ⟨rfl, hn⟩
  replace hk := hk.trans hn
  clear hn
  go_wp2
  go_ret
  exact ⟨rfl, hk⟩
set_option maxHeartbeats 1000000 in
theorem idx8_1 (least : Int) (out : List Int) (x0 x1 x2 x3 : Len) (b p q c : Nat) (w : World) (hf : Four w b 8 x0 x1 x2 x3) (ho : OddAt w p q least out) (h0 : oddL least out x0 = false) (h1 : oddL least out x1 = true) :
    Calls Try.prog 53 #[.slice (some ⟨b, 8, none⟩) 4 c, oddF p q] w fun e w' => e = .returned (.int .i64 (1)) ∧ Kept w w' := by
  have e0 := hf.c0
  have e1 := hf.c1
  have e2 := hf.c2
  have e3 := hf.c3
  have hb : b < w.heap.size := World.block_lt_of_cell? w _ hf.c0
  simp only [Nat.add_zero, Nat.reduceAdd] at e0 e1 e2 e3
  have E2 := e2
  clear e2
  have E3 := e3
  clear e3
  have hk : Kept w w := Kept.refl w
  go_enter Try.func53, Try.ntmps53
  go_wp2
  refine wp_loop_rounds 2 ?_
  rw [rounds_succ]
  go_wp2_with fail
  refine (odd_any least out x0 _ _ _ (ho.kept hk)).mono ?_
  rintro e w1 ⟨rfl, hn⟩
  replace hk := hk.trans hn
  clear hn
  go_wp2
  rw [rounds_succ]
  have e2 := (hk.cell (p := ⟨b, 10, none⟩) hb).trans E2; have e3 := (hk.cell (p := ⟨b, 11, none⟩) hb).trans E3
  go_wp2_with fail
  refine (odd_any least out x1 _ _ _ (ho.kept hk)).mono ?_
  rintro e w1 ⟨rfl, hn⟩
  replace hk := hk.trans hn
  clear hn
  go_wp2
  go_ret
  exact ⟨rfl, hk⟩
set_option maxHeartbeats 1000000 in
theorem idx8_2 (least : Int) (out : List Int) (x0 x1 x2 x3 : Len) (b p q c : Nat) (w : World) (hf : Four w b 8 x0 x1 x2 x3) (ho : OddAt w p q least out) (h0 : oddL least out x0 = false) (h1 : oddL least out x1 = false) (h2 : oddL least out x2 = true) :
    Calls Try.prog 53 #[.slice (some ⟨b, 8, none⟩) 4 c, oddF p q] w fun e w' => e = .returned (.int .i64 (2)) ∧ Kept w w' := by
  have e0 := hf.c0
  have e1 := hf.c1
  have e2 := hf.c2
  have e3 := hf.c3
  have e4 := hf.c4
  have e5 := hf.c5
  have hb : b < w.heap.size := World.block_lt_of_cell? w _ hf.c0
  simp only [Nat.add_zero, Nat.reduceAdd] at e0 e1 e2 e3 e4 e5
  have E2 := e2
  clear e2
  have E3 := e3
  clear e3
  have E4 := e4
  clear e4
  have E5 := e5
  clear e5
  have hk : Kept w w := Kept.refl w
  go_enter Try.func53, Try.ntmps53
  go_wp2
  refine wp_loop_rounds 3 ?_
  rw [rounds_succ]
  go_wp2_with fail
  refine (odd_any least out x0 _ _ _ (ho.kept hk)).mono ?_
  rintro e w1 ⟨rfl, hn⟩
  replace hk := hk.trans hn
  clear hn
  go_wp2
  rw [rounds_succ]
  have e2 := (hk.cell (p := ⟨b, 10, none⟩) hb).trans E2; have e3 := (hk.cell (p := ⟨b, 11, none⟩) hb).trans E3
  go_wp2_with fail
  refine (odd_any least out x1 _ _ _ (ho.kept hk)).mono ?_
  rintro e w1 ⟨rfl, hn⟩
  replace hk := hk.trans hn
  clear hn
  go_wp2
  rw [rounds_succ]
  have e4 := (hk.cell (p := ⟨b, 12, none⟩) hb).trans E4; have e5 := (hk.cell (p := ⟨b, 13, none⟩) hb).trans E5
  go_wp2_with fail
  refine (odd_any least out x2 _ _ _ (ho.kept hk)).mono ?_
  rintro e w1 ⟨rfl, hn⟩
  replace hk := hk.trans hn
  clear hn
  go_wp2
  go_ret
  exact ⟨rfl, hk⟩
set_option maxHeartbeats 1000000 in
theorem idx8_3 (least : Int) (out : List Int) (x0 x1 x2 x3 : Len) (b p q c : Nat) (w : World) (hf : Four w b 8 x0 x1 x2 x3) (ho : OddAt w p q least out) (h0 : oddL least out x0 = false) (h1 : oddL least out x1 = false) (h2 : oddL least out x2 = false) (h3 : oddL least out x3 = true) :
    Calls Try.prog 53 #[.slice (some ⟨b, 8, none⟩) 4 c, oddF p q] w fun e w' => e = .returned (.int .i64 (3)) ∧ Kept w w' := by
  have e0 := hf.c0
  have e1 := hf.c1
  have e2 := hf.c2
  have e3 := hf.c3
  have e4 := hf.c4
  have e5 := hf.c5
  have e6 := hf.c6
  have e7 := hf.c7
  have hb : b < w.heap.size := World.block_lt_of_cell? w _ hf.c0
  simp only [Nat.add_zero, Nat.reduceAdd] at e0 e1 e2 e3 e4 e5 e6 e7
  have E2 := e2
  clear e2
  have E3 := e3
  clear e3
  have E4 := e4
  clear e4
  have E5 := e5
  clear e5
  have E6 := e6
  clear e6
  have E7 := e7
  clear e7
  have hk : Kept w w := Kept.refl w
  go_enter Try.func53, Try.ntmps53
  go_wp2
  refine wp_loop_rounds 4 ?_
  rw [rounds_succ]
  go_wp2_with fail
  refine (odd_any least out x0 _ _ _ (ho.kept hk)).mono ?_
  rintro e w1 ⟨rfl, hn⟩
  replace hk := hk.trans hn
  clear hn
  go_wp2
  rw [rounds_succ]
  have e2 := (hk.cell (p := ⟨b, 10, none⟩) hb).trans E2; have e3 := (hk.cell (p := ⟨b, 11, none⟩) hb).trans E3
  go_wp2_with fail
  refine (odd_any least out x1 _ _ _ (ho.kept hk)).mono ?_
  rintro e w1 ⟨rfl, hn⟩
  replace hk := hk.trans hn
  clear hn
  go_wp2
  rw [rounds_succ]
  have e4 := (hk.cell (p := ⟨b, 12, none⟩) hb).trans E4; have e5 := (hk.cell (p := ⟨b, 13, none⟩) hb).trans E5
  go_wp2_with fail
  refine (odd_any least out x2 _ _ _ (ho.kept hk)).mono ?_
  rintro e w1 ⟨rfl, hn⟩
  replace hk := hk.trans hn
  clear hn
  go_wp2
  rw [rounds_succ]
  have e6 := (hk.cell (p := ⟨b, 14, none⟩) hb).trans E6; have e7 := (hk.cell (p := ⟨b, 15, none⟩) hb).trans E7
  go_wp2_with fail
  refine (odd_any least out x3 _ _ _ (ho.kept hk)).mono ?_
  rintro e w1 ⟨rfl, hn⟩
  replace hk := hk.trans hn
  clear hn
  go_wp2
  go_ret
  exact ⟨rfl, hk⟩
set_option maxHeartbeats 1000000 in
theorem idx8_4 (least : Int) (out : List Int) (x0 x1 x2 x3 : Len) (b p q c : Nat) (w : World) (hf : Four w b 8 x0 x1 x2 x3) (ho : OddAt w p q least out) (h0 : oddL least out x0 = false) (h1 : oddL least out x1 = false) (h2 : oddL least out x2 = false) (h3 : oddL least out x3 = false) :
    Calls Try.prog 53 #[.slice (some ⟨b, 8, none⟩) 4 c, oddF p q] w fun e w' => e = .returned (.int .i64 (-1)) ∧ Kept w w' := by
  have e0 := hf.c0
  have e1 := hf.c1
  have e2 := hf.c2
  have e3 := hf.c3
  have e4 := hf.c4
  have e5 := hf.c5
  have e6 := hf.c6
  have e7 := hf.c7
  have hb : b < w.heap.size := World.block_lt_of_cell? w _ hf.c0
  simp only [Nat.add_zero, Nat.reduceAdd] at e0 e1 e2 e3 e4 e5 e6 e7
  have E2 := e2
  clear e2
  have E3 := e3
  clear e3
  have E4 := e4
  clear e4
  have E5 := e5
  clear e5
  have E6 := e6
  clear e6
  have E7 := e7
  clear e7
  have hk : Kept w w := Kept.refl w
  go_enter Try.func53, Try.ntmps53
  go_wp2
  refine wp_loop_rounds 5 ?_
  rw [rounds_succ]
  go_wp2_with fail
  refine (odd_any least out x0 _ _ _ (ho.kept hk)).mono ?_
  rintro e w1 ⟨rfl, hn⟩
  replace hk := hk.trans hn
  clear hn
  go_wp2
  rw [rounds_succ]
  have e2 := (hk.cell (p := ⟨b, 10, none⟩) hb).trans E2; have e3 := (hk.cell (p := ⟨b, 11, none⟩) hb).trans E3
  go_wp2_with fail
  refine (odd_any least out x1 _ _ _ (ho.kept hk)).mono ?_
  rintro e w1 ⟨rfl, hn⟩
  replace hk := hk.trans hn
  clear hn
  go_wp2
  rw [rounds_succ]
  have e4 := (hk.cell (p := ⟨b, 12, none⟩) hb).trans E4; have e5 := (hk.cell (p := ⟨b, 13, none⟩) hb).trans E5
  go_wp2_with fail
  refine (odd_any least out x2 _ _ _ (ho.kept hk)).mono ?_
  rintro e w1 ⟨rfl, hn⟩
  replace hk := hk.trans hn
  clear hn
  go_wp2
  rw [rounds_succ]
  have e6 := (hk.cell (p := ⟨b, 14, none⟩) hb).trans E6; have e7 := (hk.cell (p := ⟨b, 15, none⟩) hb).trans E7
  go_wp2_with fail
  refine (odd_any least out x3 _ _ _ (ho.kept hk)).mono ?_
  rintro e w1 ⟨rfl, hn⟩
  replace hk := hk.trans hn
  clear hn
  go_wp2
  rw [rounds_succ]
  go_wp2
  go_ret
  exact ⟨rfl, hk⟩
set_option maxHeartbeats 1000000 in
theorem idx16_0 (least : Int) (out : List Int) (x0 x1 x2 x3 : Len) (b p q c : Nat) (w : World) (hf : Four w b 16 x0 x1 x2 x3) (ho : OddAt w p q least out) (h0 : oddL least out x0 = true) :
    Calls Try.prog 53 #[.slice (some ⟨b, 16, none⟩) 4 c, oddF p q] w fun e w' => e = .returned (.int .i64 (0)) ∧ Kept w w' := by
  have e0 := hf.c0
  have e1 := hf.c1
  have hb : b < w.heap.size := World.block_lt_of_cell? w _ hf.c0
  simp only [Nat.add_zero, Nat.reduceAdd] at e0 e1
  have hk : Kept w w := Kept.refl w
  go_enter Try.func53, Try.ntmps53
  go_wp2
  refine wp_loop_rounds 1 ?_
  rw [rounds_succ]
  go_wp2_with fail
  refine (odd_any least out x0 _ _ _ (ho.kept hk)).mono ?_
  rintro e w1 ⟨rfl, hn⟩
  replace hk := hk.trans hn
  clear hn
  go_wp2
  go_ret
  exact ⟨rfl, hk⟩
set_option maxHeartbeats 1000000 in
theorem idx16_1 (least : Int) (out : List Int) (x0 x1 x2 x3 : Len) (b p q c : Nat) (w : World) (hf : Four w b 16 x0 x1 x2 x3) (ho : OddAt w p q least out) (h0 : oddL least out x0 = false) (h1 : oddL least out x1 = true) :
    Calls Try.prog 53 #[.slice (some ⟨b, 16, none⟩) 4 c, oddF p q] w fun e w' => e = .returned (.int .i64 (1)) ∧ Kept w w' := by
  have e0 := hf.c0
  have e1 := hf.c1
  have e2 := hf.c2
  have e3 := hf.c3
  have hb : b < w.heap.size := World.block_lt_of_cell? w _ hf.c0
  simp only [Nat.add_zero, Nat.reduceAdd] at e0 e1 e2 e3
  have E2 := e2
  clear e2
  have E3 := e3
  clear e3
  have hk : Kept w w := Kept.refl w
  go_enter Try.func53, Try.ntmps53
  go_wp2
  refine wp_loop_rounds 2 ?_
  rw [rounds_succ]
  go_wp2_with fail
  refine (odd_any least out x0 _ _ _ (ho.kept hk)).mono ?_
  rintro e w1 ⟨rfl, hn⟩
  replace hk := hk.trans hn
  clear hn
  go_wp2
  rw [rounds_succ]
  have e2 := (hk.cell (p := ⟨b, 18, none⟩) hb).trans E2; have e3 := (hk.cell (p := ⟨b, 19, none⟩) hb).trans E3
  go_wp2_with fail
  refine (odd_any least out x1 _ _ _ (ho.kept hk)).mono ?_
  rintro e w1 ⟨rfl, hn⟩
  replace hk := hk.trans hn
  clear hn
  go_wp2
  go_ret
  exact ⟨rfl, hk⟩
set_option maxHeartbeats 1000000 in
theorem idx16_2 (least : Int) (out : List Int) (x0 x1 x2 x3 : Len) (b p q c : Nat) (w : World) (hf : Four w b 16 x0 x1 x2 x3) (ho : OddAt w p q least out) (h0 : oddL least out x0 = false) (h1 : oddL least out x1 = false) (h2 : oddL least out x2 = true) :
    Calls Try.prog 53 #[.slice (some ⟨b, 16, none⟩) 4 c, oddF p q] w fun e w' => e = .returned (.int .i64 (2)) ∧ Kept w w' := by
  have e0 := hf.c0
  have e1 := hf.c1
  have e2 := hf.c2
  have e3 := hf.c3
  have e4 := hf.c4
  have e5 := hf.c5
  have hb : b < w.heap.size := World.block_lt_of_cell? w _ hf.c0
  simp only [Nat.add_zero, Nat.reduceAdd] at e0 e1 e2 e3 e4 e5
  have E2 := e2
  clear e2
  have E3 := e3
  clear e3
  have E4 := e4
  clear e4
  have E5 := e5
  clear e5
  have hk : Kept w w := Kept.refl w
  go_enter Try.func53, Try.ntmps53
  go_wp2
  refine wp_loop_rounds 3 ?_
  rw [rounds_succ]
  go_wp2_with fail
  refine (odd_any least out x0 _ _ _ (ho.kept hk)).mono ?_
  rintro e w1 ⟨rfl, hn⟩
  replace hk := hk.trans hn
  clear hn
  go_wp2
  rw [rounds_succ]
  have e2 := (hk.cell (p := ⟨b, 18, none⟩) hb).trans E2; have e3 := (hk.cell (p := ⟨b, 19, none⟩) hb).trans E3
  go_wp2_with fail
  refine (odd_any least out x1 _ _ _ (ho.kept hk)).mono ?_
  rintro e w1 ⟨rfl, hn⟩
  replace hk := hk.trans hn
  clear hn
  go_wp2
  rw [rounds_succ]
  have e4 := (hk.cell (p := ⟨b, 20, none⟩) hb).trans E4; have e5 := (hk.cell (p := ⟨b, 21, none⟩) hb).trans E5
  go_wp2_with fail
  refine (odd_any least out x2 _ _ _ (ho.kept hk)).mono ?_
  rintro e w1 ⟨rfl, hn⟩
  replace hk := hk.trans hn
  clear hn
  go_wp2
  go_ret
  exact ⟨rfl, hk⟩
set_option maxHeartbeats 1000000 in
theorem idx16_3 (least : Int) (out : List Int) (x0 x1 x2 x3 : Len) (b p q c : Nat) (w : World) (hf : Four w b 16 x0 x1 x2 x3) (ho : OddAt w p q least out) (h0 : oddL least out x0 = false) (h1 : oddL least out x1 = false) (h2 : oddL least out x2 = false) (h3 : oddL least out x3 = true) :
    Calls Try.prog 53 #[.slice (some ⟨b, 16, none⟩) 4 c, oddF p q] w fun e w' => e = .returned (.int .i64 (3)) ∧ Kept w w' := by
  have e0 := hf.c0
  have e1 := hf.c1
  have e2 := hf.c2
  have e3 := hf.c3
  have e4 := hf.c4
  have e5 := hf.c5
  have e6 := hf.c6
  have e7 := hf.c7
  have hb : b < w.heap.size := World.block_lt_of_cell? w _ hf.c0
  simp only [Nat.add_zero, Nat.reduceAdd] at e0 e1 e2 e3 e4 e5 e6 e7
  have E2 := e2
  clear e2
  have E3 := e3
  clear e3
  have E4 := e4
  clear e4
  have E5 := e5
  clear e5
  have E6 := e6
  clear e6
  have E7 := e7
  clear e7
  have hk : Kept w w := Kept.refl w
  go_enter Try.func53, Try.ntmps53
  go_wp2
  refine wp_loop_rounds 4 ?_
  rw [rounds_succ]
  go_wp2_with fail
  refine (odd_any least out x0 _ _ _ (ho.kept hk)).mono ?_
  rintro e w1 ⟨rfl, hn⟩
  replace hk := hk.trans hn
  clear hn
  go_wp2
  rw [rounds_succ]
  have e2 := (hk.cell (p := ⟨b, 18, none⟩) hb).trans E2; have e3 := (hk.cell (p := ⟨b, 19, none⟩) hb).trans E3
  go_wp2_with fail
  refine (odd_any least out x1 _ _ _ (ho.kept hk)).mono ?_
  rintro e w1 ⟨rfl, hn⟩
  replace hk := hk.trans hn
  clear hn
  go_wp2
  rw [rounds_succ]
  have e4 := (hk.cell (p := ⟨b, 20, none⟩) hb).trans E4; have e5 := (hk.cell (p := ⟨b, 21, none⟩) hb).trans E5
  go_wp2_with fail
  refine (odd_any least out x2 _ _ _ (ho.kept hk)).mono ?_
  rintro e w1 ⟨rfl, hn⟩
  replace hk := hk.trans hn
  clear hn
  go_wp2
  rw [rounds_succ]
  have e6 := (hk.cell (p := ⟨b, 22, none⟩) hb).trans E6; have e7 := (hk.cell (p := ⟨b, 23, none⟩) hb).trans E7
  go_wp2_with fail
  refine (odd_any least out x3 _ _ _ (ho.kept hk)).mono ?_
  rintro e w1 ⟨rfl, hn⟩
  replace hk := hk.trans hn
  clear hn
  go_wp2
  go_ret
  exact ⟨rfl, hk⟩
set_option maxHeartbeats 1000000 in
theorem idx16_4 (least : Int) (out : List Int) (x0 x1 x2 x3 : Len) (b p q c : Nat) (w : World) (hf : Four w b 16 x0 x1 x2 x3) (ho : OddAt w p q least out) (h0 : oddL least out x0 = false) (h1 : oddL least out x1 = false) (h2 : oddL least out x2 = false) (h3 : oddL least out x3 = false) :
    Calls Try.prog 53 #[.slice (some ⟨b, 16, none⟩) 4 c, oddF p q] w fun e w' => e = .returned (.int .i64 (-1)) ∧ Kept w w' := by
  have e0 := hf.c0
  have e1 := hf.c1
  have e2 := hf.c2
  have e3 := hf.c3
  have e4 := hf.c4
  have e5 := hf.c5
  have e6 := hf.c6
  have e7 := hf.c7
  have hb : b < w.heap.size := World.block_lt_of_cell? w _ hf.c0
  simp only [Nat.add_zero, Nat.reduceAdd] at e0 e1 e2 e3 e4 e5 e6 e7
  have E2 := e2
  clear e2
  have E3 := e3
  clear e3
  have E4 := e4
  clear e4
  have E5 := e5
  clear e5
  have E6 := e6
  clear e6
  have E7 := e7
  clear e7
  have hk : Kept w w := Kept.refl w
  go_enter Try.func53, Try.ntmps53
  go_wp2
  refine wp_loop_rounds 5 ?_
  rw [rounds_succ]
  go_wp2_with fail
  refine (odd_any least out x0 _ _ _ (ho.kept hk)).mono ?_
  rintro e w1 ⟨rfl, hn⟩
  replace hk := hk.trans hn
  clear hn
  go_wp2
  rw [rounds_succ]
  have e2 := (hk.cell (p := ⟨b, 18, none⟩) hb).trans E2; have e3 := (hk.cell (p := ⟨b, 19, none⟩) hb).trans E3
  go_wp2_with fail
  refine (odd_any least out x1 _ _ _ (ho.kept hk)).mono ?_
  rintro e w1 ⟨rfl, hn⟩
  replace hk := hk.trans hn
  clear hn
  go_wp2
  rw [rounds_succ]
  have e4 := (hk.cell (p := ⟨b, 20, none⟩) hb).trans E4; have e5 := (hk.cell (p := ⟨b, 21, none⟩) hb).trans E5
  go_wp2_with fail
  refine (odd_any least out x2 _ _ _ (ho.kept hk)).mono ?_
  rintro e w1 ⟨rfl, hn⟩
  replace hk := hk.trans hn
  clear hn
  go_wp2
  rw [rounds_succ]
  have e6 := (hk.cell (p := ⟨b, 22, none⟩) hb).trans E6; have e7 := (hk.cell (p := ⟨b, 23, none⟩) hb).trans E7
  go_wp2_with fail
  refine (odd_any least out x3 _ _ _ (ho.kept hk)).mono ?_
  rintro e w1 ⟨rfl, hn⟩
  replace hk := hk.trans hn
  clear hn
  go_wp2
  rw [rounds_succ]
  go_wp2
  go_ret
  exact ⟨rfl, hk⟩
theorem contains8_any (least : Int) (out : List Int) (x0 x1 x2 x3 : Len) (b p q c : Nat) (w : World) (hf : Four w b 8 x0 x1 x2 x3) (ho : OddAt w p q least out) :
    Calls Try.prog 45 #[.slice (some ⟨b, 8, none⟩) 4 c, oddF p q] w fun e w' => e = .returned (.bool (anyOdd least out x0 x1 x2 x3)) ∧ Kept w w' := by
  cases h0 : oddL least out x0
  · skip
    cases h1 : oddL least out x1
    · skip
      cases h2 : oddL least out x2
      · skip
        cases h3 : oddL least out x3
        · skip
          have hs : anyOdd least out x0 x1 x2 x3 = false := by unfold anyOdd; simp [h0, h1, h2, h3]
          have Hs := Lib.hid hs
          clear hs
          have hk : Kept w w := Kept.refl w
          go_enter Try.func45, Try.ntmps45
          go_wp2_with fail
          refine (idx8_4 least out x0 x1 x2 x3 _ _ _ _ _ hf ho h0 h1 h2 h3).mono ?_
          rintro e w1 ⟨rfl, hn⟩
          replace hk := hk.trans hn
          clear hn
          go_wp2
          go_ret
          exact ⟨ret_bool (by rw [Hs.out]), hk⟩
        · skip
          have hs : anyOdd least out x0 x1 x2 x3 = true := by unfold anyOdd; simp [h0, h1, h2, h3]
          have Hs := Lib.hid hs
          clear hs
          have hk : Kept w w := Kept.refl w
          go_enter Try.func45, Try.ntmps45
          go_wp2_with fail
          refine (idx8_3 least out x0 x1 x2 x3 _ _ _ _ _ hf ho h0 h1 h2 h3).mono ?_
          rintro e w1 ⟨rfl, hn⟩
          replace hk := hk.trans hn
          clear hn
          go_wp2
          go_ret
          exact ⟨ret_bool (by rw [Hs.out]), hk⟩
      · skip
        have hs : anyOdd least out x0 x1 x2 x3 = true := by unfold anyOdd; simp [h0, h1, h2]
        have Hs := Lib.hid hs
        clear hs
        have hk : Kept w w := Kept.refl w
        go_enter Try.func45, Try.ntmps45
        go_wp2_with fail
        refine (idx8_2 least out x0 x1 x2 x3 _ _ _ _ _ hf ho h0 h1 h2).mono ?_
        rintro e w1 ⟨rfl, hn⟩
        replace hk := hk.trans hn
        clear hn
        go_wp2
        go_ret
        exact ⟨ret_bool (by rw [Hs.out]), hk⟩
    · skip
      have hs : anyOdd least out x0 x1 x2 x3 = true := by unfold anyOdd; simp [h0, h1]
      have Hs := Lib.hid hs
      clear hs
      have hk : Kept w w := Kept.refl w
      go_enter Try.func45, Try.ntmps45
      go_wp2_with fail
      refine (idx8_1 least out x0 x1 x2 x3 _ _ _ _ _ hf ho h0 h1).mono ?_
      rintro e w1 ⟨rfl, hn⟩
      replace hk := hk.trans hn
      clear hn
      go_wp2
      go_ret
      exact ⟨ret_bool (by rw [Hs.out]), hk⟩
  · skip
    have hs : anyOdd least out x0 x1 x2 x3 = true := by unfold anyOdd; simp [h0]
    have Hs := Lib.hid hs
    clear hs
    have hk : Kept w w := Kept.refl w
    go_enter Try.func45, Try.ntmps45
    go_wp2_with fail
    refine (idx8_0 least out x0 x1 x2 x3 _ _ _ _ _ hf ho h0).mono ?_
    rintro e w1 ⟨rfl, hn⟩
    replace hk := hk.trans hn
    clear hn
    go_wp2
    go_ret
    exact ⟨ret_bool (by rw [Hs.out]), hk⟩

theorem contains16_any (least : Int) (out : List Int) (x0 x1 x2 x3 : Len) (b p q c : Nat) (w : World) (hf : Four w b 16 x0 x1 x2 x3) (ho : OddAt w p q least out) :
    Calls Try.prog 45 #[.slice (some ⟨b, 16, none⟩) 4 c, oddF p q] w fun e w' => e = .returned (.bool (anyOdd least out x0 x1 x2 x3)) ∧ Kept w w' := by
  cases h0 : oddL least out x0
  · skip
    cases h1 : oddL least out x1
    · skip
      cases h2 : oddL least out x2
      · skip
        cases h3 : oddL least out x3
        · skip
          have hs : anyOdd least out x0 x1 x2 x3 = false := by unfold anyOdd; simp [h0, h1, h2, h3]
          have Hs := Lib.hid hs
          clear hs
          have hk : Kept w w := Kept.refl w
          go_enter Try.func45, Try.ntmps45
          go_wp2_with fail
          refine (idx16_4 least out x0 x1 x2 x3 _ _ _ _ _ hf ho h0 h1 h2 h3).mono ?_
          rintro e w1 ⟨rfl, hn⟩
          replace hk := hk.trans hn
          clear hn
          go_wp2
          go_ret
          exact ⟨ret_bool (by rw [Hs.out]), hk⟩
        · skip
          have hs : anyOdd least out x0 x1 x2 x3 = true := by unfold anyOdd; simp [h0, h1, h2, h3]
          have Hs := Lib.hid hs
          clear hs
          have hk : Kept w w := Kept.refl w
          go_enter Try.func45, Try.ntmps45
          go_wp2_with fail
          refine (idx16_3 least out x0 x1 x2 x3 _ _ _ _ _ hf ho h0 h1 h2 h3).mono ?_
          rintro e w1 ⟨rfl, hn⟩
          replace hk := hk.trans hn
          clear hn
          go_wp2
          go_ret
          exact ⟨ret_bool (by rw [Hs.out]), hk⟩
      · skip
        have hs : anyOdd least out x0 x1 x2 x3 = true := by unfold anyOdd; simp [h0, h1, h2]
        have Hs := Lib.hid hs
        clear hs
        have hk : Kept w w := Kept.refl w
        go_enter Try.func45, Try.ntmps45
        go_wp2_with fail
        refine (idx16_2 least out x0 x1 x2 x3 _ _ _ _ _ hf ho h0 h1 h2).mono ?_
        rintro e w1 ⟨rfl, hn⟩
        replace hk := hk.trans hn
        clear hn
        go_wp2
        go_ret
        exact ⟨ret_bool (by rw [Hs.out]), hk⟩
    · skip
      have hs : anyOdd least out x0 x1 x2 x3 = true := by unfold anyOdd; simp [h0, h1]
      have Hs := Lib.hid hs
      clear hs
      have hk : Kept w w := Kept.refl w
      go_enter Try.func45, Try.ntmps45
      go_wp2_with fail
      refine (idx16_1 least out x0 x1 x2 x3 _ _ _ _ _ hf ho h0 h1).mono ?_
      rintro e w1 ⟨rfl, hn⟩
      replace hk := hk.trans hn
      clear hn
      go_wp2
      go_ret
      exact ⟨ret_bool (by rw [Hs.out]), hk⟩
  · skip
    have hs : anyOdd least out x0 x1 x2 x3 = true := by unfold anyOdd; simp [h0]
    have Hs := Lib.hid hs
    clear hs
    have hk : Kept w w := Kept.refl w
    go_enter Try.func45, Try.ntmps45
    go_wp2_with fail
    refine (idx16_0 least out x0 x1 x2 x3 _ _ _ _ _ hf ho h0).mono ?_
    rintro e w1 ⟨rfl, hn⟩
    replace hk := hk.trans hn
    clear hn
    go_wp2
    go_ret
    exact ⟨ret_bool (by rw [Hs.out]), hk⟩
end Go.Proofs.Ytpkphohgnelajaa
