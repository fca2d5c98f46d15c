/- Layer 11: what every program answers that is one. -/
import Derived.Test.YtpblajjfgnhkdaaDoorRefTree3
import Derived.Test.YtpblajjfgnhkdaaDoorSpoilI
import Derived.Test.YtpblajjfgnhkdaaDoorNum
namespace Go.Proofs.YtpblajjfgnhkdaaDoor
open Go.RowKit
set_option linter.unusedSimpArgs false
set_option linter.unusedVariables false
set_option maxRecDepth 20000
/-- a node without declarations -/
def ndL (pa ki fl cl : Int) (te : ByteArray) : Nd := ⟨pa, ki, fl, cl, 0, fun _ => 0, fun _ => ⟨#[]⟩, te⟩
def ndsL (l : List Nd) (i : Nat) : Nd := l.getD i (ndL 0 0 0 0 ⟨#[]⟩)
def nilD (_ : Nat) : Value := .slice none 0 0
theorem nodes_lit {w : World} {b n : Nat} {t : TypeId} {cur : Array Value} (h : Own w b t cur) (hn : 0 < n) (l : List Nd) (hc : cur.toList = flat 6 (nodeC (ndsL l) nilD) n) (hl : ∀ i, i < n → (ndsL l i).m = 0 ∧ (ndsL l i).text.size ≤ 140737488355328) :
    NodesV w (.slice (some ⟨b, 0, none⟩) n n) n (ndsL l) nilD :=
  ⟨rv_lit h 6 n hn _ hc, fun i hi => ⟨.inl ⟨(hl i hi).1, none, 0, rfl⟩, by rw [(hl i hi).1]; decide, fun j hj => by rw [(hl i hi).1] at hj; omega, (hl i hi).2⟩⟩
def a11 : List Nd := [ndL (-1) 0 0 0 ⟨#[]⟩, ndL 0 1 0 0 ⟨#[97]⟩, ndL 0 0 1 0 ⟨#[]⟩, ndL 2 0 0 0 ⟨#[]⟩]
theorem a11_tree : treeB (ndsL a11) 4 = true := by decide
theorem a11_good : goodT (ndsL a11) 4 0 = true := by decide
theorem a11_good3 : goodT (ndsL a11) 4 3 = true := by decide
theorem a11_bad : goodT (ndsL a11) 4 4 = false := by decide
theorem n11_bad (N : Nat → Nd) (a : Int) : goodT N 0 a = false := rfl
theorem a11_kids : kidN (ndsL a11) 0 4 = 2 := by decide
theorem a11_deep : depS (ndsL a11) 4 3 = 2 := by decide
theorem treeKids_no (v : Value) (n : Nat) (N : Nat → Nd) (D : Nat → Value) (a : Int) (w : World) (hv : NodesV w v n N D) (hn : n ≤ 4611686018427387904) (ht : NameT w) (hg : goodT N n a = false) :
    Calls Tryd.prog 13 #[v, .int .i64 a] w fun e w' => ∃ o c, e = .returned (.tuple #[.slice o 0 c, .int .i64 1100]) ∧ Kept w w' := by
  refine (treeKids_any v n N D a w hv hn ht).mono fun e w' ⟨u, he, hu, hk⟩ => ?_
  have h1 : numT N n a = 1100 := by unfold numT; rw [hg]; rfl
  have h2 : kidM N n a = 0 := by unfold kidM; rw [hg]; rfl
  rw [h1] at he
  rw [h2] at hu
  rcases hu with ⟨_, o, c, h3, _⟩ | ⟨b, cap, cur, _, h3, _⟩
  · subst h3; exact ⟨o, c, he, hk⟩
  · omega
theorem treeKids_yes (v : Value) (n : Nat) (N : Nat → Nd) (D : Nat → Value) (a : Int) (w : World) (hv : NodesV w v n N D) (hn : n ≤ 4611686018427387904) (ht : NameT w) (hg : goodT N n a = true) (m : Nat) (hm : kidN N a n = m) :
    Calls Tryd.prog 13 #[v, .int .i64 a] w fun e w' => ∃ u, e = .returned (.tuple #[u, .int .i64 0]) ∧ NewOnes 3 w w' u m (kidZ N a n) ∧ Kept w w' := by
  refine (treeKids_any v n N D a w hv hn ht).mono fun e w' ⟨u, he, hu, hk⟩ => ?_
  have h1 : numT N n a = 0 := by unfold numT; rw [hg]; rfl
  have h2 : kidM N n a = m := by unfold kidM; rw [hg, if_pos rfl, hm]
  rw [h1] at he
  rw [h2] at hu
  exact ⟨u, he, hu, hk⟩
theorem treeDepth_is (v : Value) (n : Nat) (N : Nat → Nd) (D : Nat → Value) (a : Int) (w : World) (hv : NodesV w v n N D) (hn : n ≤ 4611686018427387904) (ht : NameT w) (g : Bool) (hg : goodT N n a = g) (d : Int) (hd : depS N n a.toNat = d) :
    Calls Tryd.prog 15 #[v, .int .i64 a] w fun e w' => e = .returned (.tuple #[.int .i64 (if g = true then d else 0), .int .i64 (if g = true then 0 else 1100)]) ∧ Kept w w' := by
  refine (treeDepth_any v n N D a w hv hn ht).mono fun e w' ⟨he, hk⟩ => ⟨?_, hk⟩
  rw [he]
  unfold depV numT
  rw [hg, hd]
theorem a11_row {w : World} {b : Nat} {t : TypeId} (h : Own w b t #[.int .i64 1, .int .i64 2]) : IV w (.slice (some ⟨b, 0, none⟩) 2 2) 2 (kidZ (ndsL a11) 0 4) :=
  iv_of h (by decide) (by decide) fun i hi => by
    rcases (by omega : i = 0 ∨ i = 1) with rfl | rfl
    · exact congrArg (fun z : Int => some (Value.int .i64 z)) (show (1 : Int) = kidZ (ndsL a11) 0 4 0 by decide)
    · exact congrArg (fun z : Int => some (Value.int .i64 z)) (show (2 : Int) = kidZ (ndsL a11) 0 4 1 by decide)
set_option maxHeartbeats 2000000 in
theorem awake11_any (w : World) (ht : NameT w) :
    Calls Tryd.prog 23 #[] w fun e w' => e = .returned (.bool true) ∧ Kept w w' := by
  have hk : Kept w w := Kept.refl w
  go_enter Tryd.func23, Tryd.ntmps23
  go_wp2_with fail
  refine with_boxes1 ?_
  intro X hX a
  have hsz := hk.size
  replace hk := hk.trans hX
  clear hX
  have ha : NodesV X _ 4 (ndsL a11) nilD := nodes_lit a (by decide) a11 rfl (fun i hi => by
    rcases (by omega : i = 0 ∨ i = 1 ∨ i = 2 ∨ i = 3) with rfl | rfl | rfl | rfl <;> exact ⟨rfl, by decide⟩)
  clear a
  obtain ⟨va, hva⟩ : ∃ v, Value.slice (some ⟨w.heap.size, 0, none⟩) 4 4 = v := ⟨_, rfl⟩
  rw [hva] at ha ⊢
  clear hva
  go_wp2_with fail
  refine (treeKids_yes _ 4 _ _ _ _ ha (by decide) (ht.kept hk) a11_good 2 a11_kids).mono ?_
  rintro e w1 ⟨u, rfl, hu, hn⟩
  replace hk := hk.trans hn
  replace ha := ha.kept hn
  clear hn
  go_wp2_with fail
  refine (treeDepth_is _ 4 _ _ _ _ ha (by decide) (ht.kept hk) true a11_good3 2 a11_deep).mono ?_
  rintro e w1 ⟨rfl, hn⟩
  replace hk := hk.trans hn
  replace ha := ha.kept hn
  replace hu := hu.kept hn
  clear hn
  go_wp2_with fail
  refine (treeKids_no _ 4 _ _ _ _ ha (by decide) (ht.kept hk) a11_bad).mono ?_
  rintro e w1 ⟨o1, c1, rfl, hn⟩
  replace hk := hk.trans hn
  replace ha := ha.kept hn
  replace hu := hu.kept hn
  clear hn
  go_wp2_with fail
  refine (treeDepth_is _ 0 (ndsL a11) nilD _ _ ⟨.inl ⟨rfl, none, 0, rfl⟩, fun i hi => by omega⟩ (by decide) (ht.kept hk) false (n11_bad _ _) 0 rfl).mono ?_
  rintro e w1 ⟨rfl, hn⟩
  replace hk := hk.trans hn
  replace ha := ha.kept hn
  replace hu := hu.kept hn
  clear hn
  go_wp2_with fail
  refine (treeMay_is _ 4 _ _ _ ha (by decide) (ht.kept hk) true a11_tree).mono ?_
  rintro e w1 ⟨rfl, hn⟩
  replace hk := hk.trans hn
  replace ha := ha.kept hn
  replace hu := hu.kept hn
  clear hn
  go_wp2_with fail
  refine (treeMay_is _ 0 (ndsL a11) nilD _ ⟨.inl ⟨rfl, none, 0, rfl⟩, fun i hi => by omega⟩ (by decide) (ht.kept hk) false rfl).mono ?_
  rintro e w1 ⟨rfl, hn⟩
  replace hk := hk.trans hn
  replace ha := ha.kept hn
  replace hu := hu.kept hn
  clear hn
  go_wp2_with fail
  refine with_boxes1 ?_
  intro X hX c
  have hsz := hk.size
  replace hk := hk.trans hX
  replace ha := ha.kept hX
  replace hu := hu.kept hX
  clear hX
  refine (sameIV_yes hu.iv (a11_row c) (by decide)).mono ?_
  rintro e w1 ⟨rfl, hn⟩
  replace hk := hk.trans hn
  replace ha := ha.kept hn
  replace hu := hu.kept hn
  replace c := c.kept hn
  clear hn
  go_wp2_with fail
  refine (num_any _ _).mono ?_
  rintro e w1 ⟨rfl, rfl⟩
  go_wp2_with fail
  refine (num_any _ _).mono ?_
  rintro e w1 ⟨rfl, rfl⟩
  go_wp2_with fail
  refine (num_any _ _).mono ?_
  rintro e w1 ⟨rfl, rfl⟩
  go_wp2_with fail
  refine (num_any _ _).mono ?_
  rintro e w1 ⟨rfl, rfl⟩
  go_wp2
  go_ret
  exact ⟨rfl, hk⟩
end Go.Proofs.YtpblajjfgnhkdaaDoor
